/- Part ND of this seat's mirrors: functions of the seat's program, and the plain functions that they are; each theorem bears its own conditions. -/
import Derived.Test.YtbjcopkgdjombaaH25
import Derived.Test.YtbjcopkgdjombaaTy
namespace Go.Proofs.Ytbjcopkgdjombaa
open Go.RowKit
set_option linter.unusedVariables false
set_option linter.unusedSimpArgs false
set_option maxRecDepth 100000
set_option maxHeartbeats 4000000
structure S_api_Tree where
 Kind:Int
 Words:(List Int)
 Kids:(List S_api_Tree)
noncomputable def Q9 (Js:(S_api_Tree→Int→Int→Option Int)) (a0:S_api_Tree) (a1:Int) (s0_:(Int×Int)):Option ((Int×Int) ⊕ Int) :=
 cond (cond (decide (s0_.2 < (a0.Kids.length:Int))) (decide (0≤s0_.1)) false) ((Xk a0.Kids s0_.2).bind fun x1=>(Js x1 (IntKind.i64.wrap (a1 - 1)) s0_.1).bind fun y2=>some (.inl (y2,(IntKind.i64.wrap (s0_.2+1))))) (some (.inr s0_.1))
noncomputable def Jj (Js:(S_api_Tree→Int→Int→Option Int)) (a0:S_api_Tree) (a1:Int) (a2:Int):Option Int :=
 cond (cond (a1 == 0) true (decide ((IntKind.i64.wrap ((IntKind.i64.wrap (a2 - 1)) - (a0.Words.length:Int))) < 0))) (some (-1)) ((Zt (Q9 Js a0 a1) ((IntKind.i64.wrap ((IntKind.i64.wrap (a2 - 1)) - (a0.Words.length:Int))),0)).bind fun (z4:Int)=>some z4)
noncomputable def Y3:Nat→(S_api_Tree→Int→Int→Option Int)
 | 0=>(fun _ _ _=>none)
 | k+1=>Jj ((Y3 k))
noncomputable def Qf (a0:S_api_Tree) (a1:Int) (a2:Int):Option Int:=lim fun k=>(Y3 k) a0 a1 a2
structure Zf where
 At:Int
 Mask:Int
 Old:Int
 New:Int
mutual
structure S_api_Edit where
 Kind:Int
 Old:S_api_Tree
 New:S_api_Tree
 Words:(List Zf)
 Kids:(List S_api_KidEdit)
 List_:Int
 Ops:(List S_api_Op)
structure S_api_Op where
 Kind:Int
 N:Int
 L:(List S_api_Tree)
 E:S_api_Edit
structure S_api_KidEdit where
 At:Int
 E:S_api_Edit
end
noncomputable def Qc (Qi:(S_api_Edit→Int→Int→Option Int)) (a0:S_api_Edit) (a1:Int) (s0_:(Int×Int)):Option ((Int×Int) ⊕ Int) :=
 cond (cond (decide (s0_.2 < (a0.Kids.length:Int))) (decide (0≤s0_.1)) false) ((Xk a0.Kids s0_.2).bind fun x6=>(Qi x6.E (IntKind.i64.wrap (a1 - 1)) s0_.1).bind fun y8=>some (.inl (y8,(IntKind.i64.wrap (s0_.2+1))))) (some (.inr s0_.1))
noncomputable def Jk (a0:S_api_Edit) (s1_:(Int×Int)) (s2_:(Int×Int)):Option ((Int×Int) ⊕ Int) :=
 (Xk a0.Ops s1_.2).bind fun x14=>cond (cond (decide (s2_.2 < (x14.L.length:Int))) (decide (0≤s2_.1)) false) ((Xk a0.Ops s1_.2).bind fun x16=>(Xk x16.L s2_.2).bind fun x18=>(Qf x18 80 s2_.1).bind fun y19=>some (.inl (y19,(IntKind.i64.wrap (s2_.2+1))))) (some (.inr s2_.1))
noncomputable def Qd (Qi:(S_api_Edit→Int→Int→Option Int)) (a0:S_api_Edit) (a1:Int) (s1_:(Int×Int)):Option ((Int×Int) ⊕ Int) :=
 cond (cond (decide (s1_.2 < (a0.Ops.length:Int))) (decide (0≤s1_.1)) false) (((Zt (Jk a0 s1_) (s1_.1,0)).bind fun (z21:Int)=>cond (decide (0≤z21)) ((Xk a0.Ops s1_.2).bind fun x22=>(Qi x22.E (IntKind.i64.wrap (a1 - 1)) z21).bind fun y24=>some y24) (some z21)).bind fun (z11:Int)=>some (.inl (z11,(IntKind.i64.wrap (s1_.2+1))))) (some (.inr s1_.1))
noncomputable def Je (Qi:(S_api_Edit→Int→Int→Option Int)) (a0:S_api_Edit) (a1:Int) (a2:Int):Option Int :=
 cond (cond (a1 == 0) true (decide ((IntKind.i64.wrap ((IntKind.i64.wrap ((IntKind.i64.wrap (a2 - 1)) - (a0.Words.length:Int))) - (a0.Ops.length:Int))) < 0))) (some (-1)) ((Qf a0.Old 80 (IntKind.i64.wrap ((IntKind.i64.wrap ((IntKind.i64.wrap (a2 - 1)) - (a0.Words.length:Int))) - (a0.Ops.length:Int)))).bind fun y2=>(cond (decide (0≤y2)) ((Qf a0.New 80 y2).bind fun y4=>some y4) (some y2)).bind fun (z3:Int)=>(Zt (Qc Qi a0 a1) (z3,0)).bind fun (z10:Int)=>(Zt (Qd Qi a0 a1) (z10,0)).bind fun (z27:Int)=>some z27)
noncomputable def Yd:Nat→(S_api_Edit→Int→Int→Option Int)
 | 0=>(fun _ _ _=>none)
 | k+1=>Je ((Yd k))
noncomputable def Zel (a0:S_api_Edit) (a1:Int) (a2:Int):Option Int:=lim fun k=>(Yd k) a0 a1 a2
noncomputable def Gx (a0:S_api_Edit):Option Bool :=
 (Zel a0 80 3000).bind fun y2=>some (decide (0≤y2))
noncomputable def Vq (a0:S_api_Tree):Option Bool :=
 some (cond (a0.Kind == 0) ((IntKind.i64.wrap ((a0.Words.length:Int)+(a0.Kids.length:Int))) == 0) false)
noncomputable def Zg0 (a0:Int):Option Int :=
 cond (a0 == 0) (some 0) (cond (a0 == 1) (some 1) (cond (a0 == 2) (some 8) (cond (a0 == 3) (some 16) (cond (a0 == 4) (some 32) (cond (a0 == 5) (some 64) (some (-1)))))))
noncomputable def Jo (y2:Int) (s0_:(Int×Int)):Option ((Int×Int) ⊕ Int) :=
 cond (decide (s0_.2 < y2)) (some (.inl ((IntKind.u64.wrap (Int.tdiv s0_.1 2)),(IntKind.i64.wrap (s0_.2+1))))) (some (.inr s0_.1))
noncomputable def Zaq (a0:Int) (a1:Int):Option Bool :=
 (Zg0 a0).bind fun y2=>cond (decide (y2 < 0)) (some false) ((Zt (Jo y2) (a1,0)).bind fun (z4:Int)=>some (z4 == 0))
noncomputable def Gl (Vd:(S_api_Tree→Int→Option Bool)) (a0:S_api_Tree) (a1:Int) (s0_:Int):Option (Int ⊕ (Unit ⊕ Unit)) :=
 cond (decide (s0_ < (a0.Kids.length:Int))) ((Xk a0.Kids s0_).bind fun x2=>(Vd x2 (IntKind.i64.wrap (a1 - 1))).bind fun y4=>cond (!y4) (some (.inr (.inl ()))) ((cond ((cond (decide (2≤a0.Kind)) (decide (a0.Kind≤7)) false) != (x2.Kind == 10)) (some true) (cond (a0.Kind == 9) (cond (x2.Kind != 1) (some true) (cond (decide (2≤a0.Kind)) (cond (decide (a0.Kind≤7)) ((Xk x2.Words 0).bind fun x14=>(Zaq (IntKind.i64.wrap (a0.Kind - 2)) x14).bind fun y15=>some (cond (cond ((cond (decide (2≤a0.Kind)) (decide (a0.Kind≤7)) false) != (x2.Kind == 10)) true (cond (a0.Kind == 9) (x2.Kind != 1) false)) true (cond (cond (decide (2≤a0.Kind)) (decide (a0.Kind≤7)) false) (!y15) false))) (some (cond (cond ((cond (decide (2≤a0.Kind)) (decide (a0.Kind≤7)) false) != (x2.Kind == 10)) true (cond (a0.Kind == 9) (x2.Kind != 1) false)) true false))) (some (cond (cond ((cond (decide (2≤a0.Kind)) (decide (a0.Kind≤7)) false) != (x2.Kind == 10)) true (cond (a0.Kind == 9) (x2.Kind != 1) false)) true false)))) (cond (decide (2≤a0.Kind)) (cond (decide (a0.Kind≤7)) ((Xk x2.Words 0).bind fun x16=>(Zaq (IntKind.i64.wrap (a0.Kind - 2)) x16).bind fun y17=>some (cond (cond ((cond (decide (2≤a0.Kind)) (decide (a0.Kind≤7)) false) != (x2.Kind == 10)) true (cond (a0.Kind == 9) (x2.Kind != 1) false)) true (cond (cond (decide (2≤a0.Kind)) (decide (a0.Kind≤7)) false) (!y17) false))) (some (cond (cond ((cond (decide (2≤a0.Kind)) (decide (a0.Kind≤7)) false) != (x2.Kind == 10)) true (cond (a0.Kind == 9) (x2.Kind != 1) false)) true false))) (some (cond (cond ((cond (decide (2≤a0.Kind)) (decide (a0.Kind≤7)) false) != (x2.Kind == 10)) true (cond (a0.Kind == 9) (x2.Kind != 1) false)) true false))))).bind fun (z9:Bool)=>cond z9 (some (.inr (.inl ()))) (some (.inl (IntKind.i64.wrap (s0_+1)))))) (some (.inr (.inr ())))
noncomputable def Zbe (Vd:(S_api_Tree→Int→Option Bool)) (a0:S_api_Tree) (a1:Int):Option Bool :=
 cond (a0.Kind == 0) (some (cond ((a0.Words.length:Int) == 0) ((a0.Kids.length:Int) == 0) false)) (cond (a0.Kind == 10) (some (cond ((a0.Words.length:Int) == 1) ((a0.Kids.length:Int) == 0) false)) (cond (cond (cond (cond (cond (cond (decide (a0.Kind < 0)) true (decide (10 < a0.Kind))) true (a1 == 0)) true (decide (65536≤(a0.Words.length:Int)))) true (cond (a0.Kind == 1) (decide (65536≤(a0.Kids.length:Int))) false)) true (decide (1048576≤(a0.Kids.length:Int)))) (some false) (cond (cond (decide (1 < a0.Kind)) (decide (0 < (a0.Words.length:Int))) false) (some false) ((Zt (Gl Vd a0 a1) 0).bind fun (z28:(Unit ⊕ Unit))=>match z28 with | .inl z28=>some false | .inr z28=>some true))))
noncomputable def Vo:Nat→(S_api_Tree→Int→Option Bool)
 | 0=>(fun _ _=>none)
 | k+1=>Zbe ((Vo k))
noncomputable def Gw (a0:S_api_Tree) (a1:Int):Option Bool:=lim fun k=>(Vo k) a0 a1
noncomputable def Gp (s0_:(Int×Int×(Arr Int 8))):Option ((Int×Int×(Arr Int 8)) ⊕ (Arr Int 8)) :=
 cond (decide (s0_.2.1 < 8)) ((Xk s0_.2.2.1 s0_.2.1).bind fun x15=>some (.inl ((IntKind.u64.wrap (Int.tdiv s0_.1 256)),(IntKind.i64.wrap (s0_.2.1+1)),(Arr.put s0_.2.2 s0_.2.1 (IntKind.u8.wrap (Int.tmod s0_.1 256)))))) (some (.inr s0_.2.2))
noncomputable def Gv (a0:Int):Option (Arr Int 8) :=
 ((some (⟨[0,0,0,0,0,0,0,0],rfl⟩:(Arr Int 8)))).bind fun y3=>((some (⟨[0,0,0,0,0,0,0,0],rfl⟩:(Arr Int 8)))).bind fun y9=>(Zt (Gp) (a0,0,y9)).bind fun (z18:(Arr Int 8))=>some z18
noncomputable def V3 (a1:Int) (s0_:(Int×Int)):Option ((Int×Int) ⊕ Int) :=
 cond (decide (s0_.2 < a1)) (some (.inl ((IntKind.u8.wrap (Int.tdiv s0_.1 2)),(IntKind.i64.wrap (s0_.2+1))))) (some (.inr s0_.1))
noncomputable def Zbr (a0:Int) (a1:Int):Option Bool :=
 (Zt (V3 a1) (a0,0)).bind fun (z2:Int)=>some ((Int.tmod z2 2) == 1)
noncomputable def Zbs (a0:(List Int)) (a1:Int) (s0_:(Int×Int)):Option ((Int×Int) ⊕ Int) :=
 cond (decide (0≤s0_.2)) ((Xk a0 (IntKind.i64.wrap (a1+s0_.2))).bind fun x1=>some (.inl ((IntKind.u64.wrap ((IntKind.u64.wrap (s0_.1 * 256))+(IntKind.u64.wrap x1))),(IntKind.i64.wrap (s0_.2 - 1))))) (some (.inr s0_.1))
noncomputable def Zgs (a0:(List Int)) (a1:Int):Option Int :=
 (Zt (Zbs a0 a1) (0,7)).bind fun (z3:Int)=>some z3
noncomputable def Za3 (a2:Int) (y9:(Arr Int 8)) (s0_:(Int×(Arr Int 8))):Option ((Int×(Arr Int 8)) ⊕ (Arr Int 8)) :=
 cond (decide (s0_.1 < 8)) (((Zbr a2 s0_.1).bind fun y17=>cond y17 ((Xk y9.1 s0_.1).bind fun x18=>(Xk s0_.2.1 s0_.1).bind fun x19=>some (Arr.put s0_.2 s0_.1 x18)) (some s0_.2)).bind fun (z15:(Arr Int 8))=>some (.inl ((IntKind.i64.wrap (s0_.1+1)),z15))) (some (.inr s0_.2))
noncomputable def Zcs (a0:Int) (a1:Int) (a2:Int):Option Int :=
 (Gv a0).bind fun y8=>(Gv a1).bind fun y9=>((some (⟨[0,0,0,0,0,0,0,0],rfl⟩:(Arr Int 8)))).bind fun y10=>(Zt (Za3 a2 y9) (0,y8)).bind fun (z23:(Arr Int 8))=>(Zgs z23.1 0).bind fun y29=>some y29
noncomputable def U8 (a0:Int) (a1:Int):Option Bool :=
 (Zcs a0 0 a1).bind fun y2=>some (y2 == 0)
noncomputable def Zar (a0:S_api_Edit):Option Bool :=
 (cond (a0.Kind == 0) ((Vq a0.Old).bind fun y6=>cond y6 ((Vq a0.New).bind fun y7=>some (cond (cond (cond (cond (a0.Kind == 0) y6 false) y7 false) ((IntKind.i64.wrap ((IntKind.i64.wrap ((a0.Words.length:Int)+(a0.Kids.length:Int)))+(a0.Ops.length:Int))) == 0) false) (a0.List_ == 0) false)) (some false)) (some false)).bind fun (z3:Bool)=>some z3
noncomputable def Uh (a0:S_api_Edit) (s0_:(Int×Int×Int)):Option ((Int×Int×Int) ⊕ (Int×Int)) :=
 cond (decide (s0_.2.2 < (a0.Ops.length:Int))) (((Xk a0.Ops s0_.2.2).bind fun x3=>(cond (x3.Kind == 3) (some 1) (some (IntKind.i64.wrap (x3.N+(x3.L.length:Int))))).bind fun (z4:Int)=>(cond (x3.Kind != 2) (some (IntKind.i64.wrap (s0_.1+z4))) (some s0_.1)).bind fun (z6:Int)=>(cond (x3.Kind != 1) (some (IntKind.i64.wrap (s0_.2.1+z4))) (some s0_.2.1)).bind fun (z8:Int)=>(cond (decide (1048576 < z6)) (some 1048576) (some z6)).bind fun (z10:Int)=>cond (decide (1048576 < z8)) (some (z10,1048576)) (some (z10,z8))).bind fun (z1:(Int×Int))=>some (.inl (z1.1,z1.2,(IntKind.i64.wrap (s0_.2.2+1))))) (some (.inr (s0_.1,s0_.2.1)))
noncomputable def Ug (a0:S_api_Edit):Option (Int×Int) :=
 (Zt (Uh a0) (0,0,0)).bind fun (z14:(Int×Int))=>some (z14.1,z14.2)
noncomputable def V0 (a0:S_api_Edit) (s0_:(Int×Int)):Option ((Int×Int) ⊕ (Unit ⊕ Unit)) :=
 cond (decide (s0_.2 < (a0.Words.length:Int))) ((Xk a0.Words s0_.2).bind fun x19=>(cond (decide (x19.At≤s0_.1)) (some true) (cond (decide (65534 < x19.At)) (some true) (cond (x19.Mask == 0) (some true) ((U8 x19.Old x19.Mask).bind fun y25=>cond y25 ((U8 x19.New x19.Mask).bind fun y26=>some (cond (cond (cond (cond (decide (x19.At≤s0_.1)) true (decide (65534 < x19.At))) true (x19.Mask == 0)) true (!y25)) true (!y26))) (some true))))).bind fun (z22:Bool)=>cond z22 (some (.inr (.inl ()))) (some (.inl (x19.At,(IntKind.i64.wrap (s0_.2+1)))))) (some (.inr (.inr ())))
noncomputable def V1 (Xo:(S_api_Edit→Int→Option Bool)) (a0:S_api_Edit) (a1:Int) (s1_:(Int×Int)):Option ((Int×Int) ⊕ (Unit ⊕ Unit)) :=
 cond (decide (s1_.2 < (a0.Kids.length:Int))) ((Xk a0.Kids s1_.2).bind fun x35=>(cond (decide (x35.At≤s1_.1)) (some true) (cond (decide (65534 < x35.At)) (some true) (cond (x35.E.Kind == 0) (some true) ((Xo x35.E (IntKind.i64.wrap (a1 - 1))).bind fun y39=>some (cond (cond (cond (decide (x35.At≤s1_.1)) true (decide (65534 < x35.At))) true (x35.E.Kind == 0)) true (!y39)))))).bind fun (z37:Bool)=>cond z37 (some (.inr (.inl ()))) (some (.inl (x35.At,(IntKind.i64.wrap (s1_.2+1)))))) (some (.inr (.inr ())))
noncomputable def Ky (Q8:(Int→S_api_Op→Int→Option Bool)) (a0:S_api_Edit) (a1:Int) (s2_:Int):Option (Int ⊕ (Unit ⊕ Unit)) :=
 cond (decide (s2_ < (a0.Ops.length:Int))) ((Xk a0.Ops s2_).bind fun x48=>(Q8 a0.List_ x48 (IntKind.i64.wrap (a1 - 1))).bind fun y49=>cond (!y49) (some (.inr (.inl ()))) (some (.inl (IntKind.i64.wrap (s2_+1))))) (some (.inr (.inr ())))
noncomputable def Zbg (Xo:(S_api_Edit→Int→Option Bool)) (Q8:(Int→S_api_Op→Int→Option Bool)) (a0:S_api_Edit) (a1:Int):Option Bool :=
 cond (cond (cond (a1 == 0) true (decide (a0.Kind < 0))) true (decide (3 < a0.Kind))) (some false) ((cond (a0.Kind != 1) ((Vq a0.Old).bind fun y6=>cond y6 ((Vq a0.New).bind fun y7=>some (cond (cond (cond (a0.Kind != 1) (!(cond y6 y7 false)) false) true (cond (a0.Kind != 2) (decide (0 < (IntKind.i64.wrap ((a0.Words.length:Int)+(a0.Kids.length:Int))))) false)) true (cond (a0.Kind != 3) (cond (a0.List_ != 0) true (decide (0 < (a0.Ops.length:Int)))) false))) (some true)) (some (cond (cond (a0.Kind != 2) (decide (0 < (IntKind.i64.wrap ((a0.Words.length:Int)+(a0.Kids.length:Int))))) false) true (cond (a0.Kind != 3) (cond (a0.List_ != 0) true (decide (0 < (a0.Ops.length:Int)))) false)))).bind fun (z3:Bool)=>cond z3 (some false) (cond (a0.Kind == 1) (((Gw a0.Old 64).bind fun y15=>cond y15 ((Gw a0.New 64).bind fun y16=>some (cond (cond (cond y15 y16 false) (a0.Old.Kind != 10) false) (a0.New.Kind != 10) false)) (some false)).bind fun (z12:Bool)=>some z12) ((Zt (V0 a0) ((-1),0)).bind fun (z33:(Unit ⊕ Unit))=>match z33 with | .inl z33=>some false | .inr z33=>(Zt (V1 Xo a0 a1) ((-1),0)).bind fun (z45:(Unit ⊕ Unit))=>match z45 with | .inl z45=>some false | .inr z45=>cond (cond (a0.Kind == 3) (cond (decide (a0.List_ < 2)) true (decide (9 < a0.List_))) false) (some false) ((Zt (Ky Q8 a0 a1) 0).bind fun (z52:(Unit ⊕ Unit))=>match z52 with | .inl z52=>some false | .inr z52=>(Ug a0).bind fun y54=>some (cond (decide (y54.1 < 1048576)) (decide (y54.2 < 1048576)) false)))))
noncomputable def Zbh (a0:Int) (a1:S_api_Op) (s0_:Int):Option (Int ⊕ (Unit ⊕ Unit)) :=
 cond (decide (s0_ < (a1.L.length:Int))) ((Zcz a1.L s0_ (IntKind.i64.wrap (s0_+1))).bind fun l10=>(Gw (⟨a0,[],l10⟩:S_api_Tree) 64).bind fun y11=>cond (!y11) (some (.inr (.inl ()))) (some (.inl (IntKind.i64.wrap (s0_+1))))) (some (.inr (.inr ())))
noncomputable def Zdw (Xo:(S_api_Edit→Int→Option Bool)) (Q8:(Int→S_api_Op→Int→Option Bool)) (a0:Int) (a1:S_api_Op) (a2:Int):Option Bool :=
 cond (a1.Kind == 0) ((cond (decide (1≤a1.N)) (cond (decide (a1.N≤1048576)) (cond ((a1.L.length:Int) == 0) ((Zar a1.E).bind fun y4=>some (cond (cond (cond (decide (1≤a1.N)) (decide (a1.N≤1048576)) false) ((a1.L.length:Int) == 0) false) y4 false)) (some false)) (some false)) (some false)).bind fun (z2:Bool)=>some z2) (cond (cond (cond (a1.N != 0) true (decide (a1.Kind < 0))) true (decide (3 < a1.Kind))) (some false) (cond (decide (a1.Kind < 3)) ((Zt (Zbh a0 a1) 0).bind fun (z14:(Unit ⊕ Unit))=>match z14 with | .inl z14=>some false | .inr z14=>(cond (decide (0 < (a1.L.length:Int))) ((Zar a1.E).bind fun y18=>some (cond (decide (0 < (a1.L.length:Int))) y18 false)) (some false)).bind fun (z16:Bool)=>some z16) ((cond (decide (0 < (a1.L.length:Int))) (some true) (cond (a1.E.Kind == 0) (some true) (cond (decide (a0≤7)) (some true) ((Xo a1.E a2).bind fun y23=>some (cond (cond (cond (decide (0 < (a1.L.length:Int))) true (a1.E.Kind == 0)) true (decide (a0≤7))) true (!y23)))))).bind fun (z21:Bool)=>cond z21 (some false) (some (cond (cond (a0 == 8) true (a1.E.Kind == 2)) true (cond (cond (a1.E.Kind == 1) (a1.E.Old.Kind == 1) false) (a1.E.New.Kind == 1) false))))))
noncomputable def Yq:Nat→((S_api_Edit→Int→Option Bool)×(Int→S_api_Op→Int→Option Bool))
 | 0=>((fun _ _=>none),(fun _ _ _=>none))
 | k+1=>(Zbg ((Yq k).1) ((Yq k).2),Zdw ((Yq k).1) ((Yq k).2))
noncomputable def Zg2 (a0:S_api_Edit) (a1:Int):Option Bool:=lim fun k=>(Yq k).1 a0 a1
noncomputable def Gm (X2:(S_api_Edit→Option Bool)) (a0:S_api_Edit) (s0_:Int):Option (Int ⊕ (Unit ⊕ Unit)) :=
 cond (decide (s0_ < (a0.Kids.length:Int))) ((Xk a0.Kids s0_).bind fun x6=>(X2 x6.E).bind fun y8=>cond (!y8) (some (.inr (.inl ()))) (some (.inl (IntKind.i64.wrap (s0_+1))))) (some (.inr (.inr ())))
noncomputable def Gn (X2:(S_api_Edit→Option Bool)) (a0:S_api_Edit) (s1_:Int):Option (Int ⊕ (Unit ⊕ Unit)) :=
 cond (decide (s1_ < (a0.Ops.length:Int))) ((Xk a0.Ops s1_).bind fun x15=>(X2 x15.E).bind fun y17=>cond (!y17) (some (.inr (.inl ()))) (some (.inl (IntKind.i64.wrap (s1_+1))))) (some (.inr (.inr ())))
noncomputable def Zbf (X2:(S_api_Edit→Option Bool)) (a0:S_api_Edit):Option Bool :=
 (Ug a0).bind fun y2=>cond (cond (decide (2000 < y2.1)) true (decide (2000 < y2.2))) (some false) ((Zt (Gm X2 a0) 0).bind fun (z11:(Unit ⊕ Unit))=>match z11 with | .inl z11=>some false | .inr z11=>(Zt (Gn X2 a0) 0).bind fun (z20:(Unit ⊕ Unit))=>match z20 with | .inl z20=>some false | .inr z20=>some true)
noncomputable def Vp:Nat→(S_api_Edit→Option Bool)
 | 0=>(fun _=>none)
 | k+1=>Zbf ((Vp k))
noncomputable def Zg1 (a0:S_api_Edit):Option Bool:=lim fun k=>(Vp k) a0
noncomputable def Qg (a0:S_api_Edit):Option Bool :=
 ((Gx a0).bind fun y8=>cond y8 ((Zg2 a0 64).bind fun y9=>cond y9 ((Zg1 a0).bind fun y10=>some (cond (cond y8 y9 false) y10 false)) (some false)) (some false)).bind fun (z4:Bool)=>some z4
noncomputable def Zct (a0:S_api_Tree):Option Bool :=
 (Qf a0 80 3000).bind fun y2=>some (decide (0≤y2))
noncomputable def Zd2 (a0:S_api_Tree):Option Bool :=
 ((Zct a0).bind fun y6=>cond y6 ((Gw a0 64).bind fun y7=>some (cond (cond y6 y7 false) (a0.Kind != 10) false)) (some false)).bind fun (z3:Bool)=>some z3
noncomputable def Zbi (a0:S_api_Edit) (s0_:(Int×(List Zf))):Option ((Int×(List Zf)) ⊕ (List Zf)) :=
 cond (decide (s0_.1 < (a0.Words.length:Int))) ((Xk a0.Words s0_.1).bind fun x2=>(Zam 32 s0_.2 ([(⟨x2.At,x2.Mask,x2.New,x2.Old⟩:Zf)]:List Zf)).bind fun l3=>some (.inl ((IntKind.i64.wrap (s0_.1+1)),l3))) (some (.inr s0_.2))
noncomputable def Zbj (Qa:(S_api_Edit→Option S_api_Edit)) (a0:S_api_Edit) (s1_:(Int×(List S_api_KidEdit))):Option ((Int×(List S_api_KidEdit)) ⊕ (List S_api_KidEdit)) :=
 cond (decide (s1_.1 < (a0.Kids.length:Int))) ((Xk a0.Kids s1_.1).bind fun x7=>(Qa x7.E).bind fun y8=>(Zam 208 s1_.2 ([(⟨x7.At,y8⟩:S_api_KidEdit)]:List S_api_KidEdit)).bind fun l9=>some (.inl ((IntKind.i64.wrap (s1_.1+1)),l9))) (some (.inr s1_.2))
noncomputable def Zbk (X1:(S_api_Op→Option S_api_Op)) (a0:S_api_Edit) (s2_:(Int×(List S_api_Op))):Option ((Int×(List S_api_Op)) ⊕ (List S_api_Op)) :=
 cond (decide (s2_.1 < (a0.Ops.length:Int))) ((Xk a0.Ops s2_.1).bind fun x13=>(X1 x13).bind fun y14=>(Zam 240 s2_.2 ([y14]:List S_api_Op)).bind fun l15=>some (.inl ((IntKind.i64.wrap (s2_.1+1)),l15))) (some (.inr s2_.2))
noncomputable def Zdz (Qa:(S_api_Edit→Option S_api_Edit)) (X1:(S_api_Op→Option S_api_Op)) (a0:S_api_Edit):Option S_api_Edit :=
 (Zt (Zbi a0) (0,([]:List Zf))).bind fun (z5:(List Zf))=>(Zt (Zbj Qa a0) (0,([]:List S_api_KidEdit))).bind fun (z11:(List S_api_KidEdit))=>(Zt (Zbk X1 a0) (0,([]:List S_api_Op))).bind fun (z17:(List S_api_Op))=>some (⟨a0.Kind,a0.New,a0.Old,z5,z11,a0.List_,z17⟩:S_api_Edit)
noncomputable def Zb5 (Qa:(S_api_Edit→Option S_api_Edit)) (X1:(S_api_Op→Option S_api_Op)) (a0:S_api_Op):Option S_api_Op :=
 (cond (a0.Kind == 1) (some (2,a0.E.Kind,a0.E.Old.Kind,a0.E.Old.Words,a0.E.Old.Kids,a0.E.New.Kind,a0.E.New.Words,a0.E.New.Kids,a0.E.Words,a0.E.Kids,a0.E.List_,a0.E.Ops)) (cond (a0.Kind == 2) (some (1,a0.E.Kind,a0.E.Old.Kind,a0.E.Old.Words,a0.E.Old.Kids,a0.E.New.Kind,a0.E.New.Words,a0.E.New.Kids,a0.E.Words,a0.E.Kids,a0.E.List_,a0.E.Ops)) (cond (a0.Kind == 3) ((Qa a0.E).bind fun y2=>some (a0.Kind,y2.Kind,y2.Old.Kind,y2.Old.Words,y2.Old.Kids,y2.New.Kind,y2.New.Words,y2.New.Kids,y2.Words,y2.Kids,y2.List_,y2.Ops)) (some (a0.Kind,a0.E.Kind,a0.E.Old.Kind,a0.E.Old.Words,a0.E.Old.Kids,a0.E.New.Kind,a0.E.New.Words,a0.E.New.Kids,a0.E.Words,a0.E.Kids,a0.E.List_,a0.E.Ops))))).bind fun (z1:(Int×Int×Int×(List Int)×(List S_api_Tree)×Int×(List Int)×(List S_api_Tree)×(List Zf)×(List S_api_KidEdit)×Int×(List S_api_Op)))=>some (⟨z1.1,a0.N,a0.L,⟨z1.2.1,⟨z1.2.2.1,z1.2.2.2.1,z1.2.2.2.2.1⟩,⟨z1.2.2.2.2.2.1,z1.2.2.2.2.2.2.1,z1.2.2.2.2.2.2.2.1⟩,z1.2.2.2.2.2.2.2.2.1,z1.2.2.2.2.2.2.2.2.2.1,z1.2.2.2.2.2.2.2.2.2.2.1,z1.2.2.2.2.2.2.2.2.2.2.2⟩⟩:S_api_Op)
noncomputable def Xn:Nat→((S_api_Edit→Option S_api_Edit)×(S_api_Op→Option S_api_Op))
 | 0=>((fun _=>none),(fun _=>none))
 | k+1=>(Zdz ((Xn k).1) ((Xn k).2),Zb5 ((Xn k).1) ((Xn k).2))
noncomputable def Zlq (a0:S_api_Edit):Option S_api_Edit:=lim fun k=>(Xn k).1 a0
noncomputable def Za4 (a0:(List Int)) (s0_:Int):Option (Int ⊕ Int) :=
 (cond (decide (0 < s0_)) ((Xk a0 (IntKind.i64.wrap (s0_ - 1))).bind fun x4=>some (cond (decide (0 < s0_)) (x4 == 0) false)) (some false)).bind fun (z2:Bool)=>cond z2 (some (.inl (IntKind.i64.wrap (s0_ - 1)))) (some (.inr s0_))
noncomputable def Gy (a0:(List Int)):Option (List Int) :=
 (Zt (Za4 a0) (a0.length:Int)).bind fun (z7:Int)=>(Zcz a0 0 z7).bind fun l9=>some l9
noncomputable def Zbt (a0:(List S_api_Tree)) (s0_:Int):Option (Int ⊕ Int) :=
 (cond (decide (0 < s0_)) ((Xk a0 (IntKind.i64.wrap (s0_ - 1))).bind fun x6=>some (cond (decide (0 < s0_)) (x6.Kind == 0) false)) (some false)).bind fun (z3:Bool)=>cond z3 (some (.inl (IntKind.i64.wrap (s0_ - 1)))) (some (.inr s0_))
noncomputable def Za0 (a0:(List S_api_Tree)):Option (List S_api_Tree) :=
 (Zt (Zbt a0) (a0.length:Int)).bind fun (z10:Int)=>(Zcz a0 0 z10).bind fun l12=>some l12
noncomputable def Zcn (Zde:(S_api_Tree→Option S_api_Tree)) (z1:((List Int)×(List S_api_Tree))) (s0_:(Int×(List S_api_Tree))):Option ((Int×(List S_api_Tree)) ⊕ (List S_api_Tree)) :=
 cond (decide (s0_.1 < (z1.2.length:Int))) ((Xk z1.2 s0_.1).bind fun x9=>(Zde x9).bind fun y10=>(Xk s0_.2 s0_.1).bind fun x11=>some (.inl ((IntKind.i64.wrap (s0_.1+1)),(Zg6 s0_.2 s0_.1 y10)))) (some (.inr s0_.2))
noncomputable def Zjt (Zde:(S_api_Tree→Option S_api_Tree)) (a0:S_api_Tree):Option S_api_Tree :=
 cond (a0.Kind == 0) (some (⟨0,[],[]⟩:S_api_Tree)) ((cond (a0.Kind == 1) ((Gy a0.Words).bind fun y2=>(Za0 a0.Kids).bind fun y3=>some (y2,y3)) (some (a0.Words,a0.Kids))).bind fun (z1:((List Int)×(List S_api_Tree)))=>(cond (decide (0 < (z1.2.length:Int))) ((Zrm 56 (z1.2.length:Int) (⟨(0:Int),[],[]⟩:S_api_Tree)).bind fun l6=>some l6) (some ([]:List S_api_Tree))).bind fun (z5:(List S_api_Tree))=>(Zt (Zcn Zde z1) (0,z5)).bind fun (z14:(List S_api_Tree))=>some (⟨a0.Kind,z1.1,z14⟩:S_api_Tree))
noncomputable def Za8:Nat→(S_api_Tree→Option S_api_Tree)
 | 0=>(fun _=>none)
 | k+1=>Zjt ((Za8 k))
noncomputable def Zc8 (a0:S_api_Tree):Option S_api_Tree:=lim fun k=>(Za8 k) a0
noncomputable def Kz (a0:List Zf):Option (List Zf) :=
 Zam 32 ([]:List Zf) a0
structure Zs where
 out:(List S_api_Op)
 kept:Int
 gone:(List S_api_Tree)
 come:(List S_api_Tree)
noncomputable def X4 (a0:Zs):Option Zs :=
 (cond (decide (0 < a0.kept)) ((Zam 240 a0.out ([(⟨0,0,[],⟨0,⟨0,[],[]⟩,⟨0,[],[]⟩,[],[],0,[]⟩⟩:S_api_Op)]:List S_api_Op)).bind fun l2=>(Xk l2 (a0.out.length:Int)).bind fun x3=>some (a0.out++[(⟨0,a0.kept,[],⟨0,⟨0,[],[]⟩,⟨0,[],[]⟩,[],[],0,[]⟩⟩:S_api_Op)])) (some a0.out)).bind fun (z1:(List S_api_Op))=>(cond (decide (0 < (a0.gone.length:Int))) ((Zam 240 z1 ([(⟨0,0,[],⟨0,⟨0,[],[]⟩,⟨0,[],[]⟩,[],[],0,[]⟩⟩:S_api_Op)]:List S_api_Op)).bind fun l9=>(Xk l9 (z1.length:Int)).bind fun x10=>some ((z1++[(⟨1,0,a0.gone,⟨0,⟨0,[],[]⟩,⟨0,[],[]⟩,[],[],0,[]⟩⟩:S_api_Op)]),a0.gone)) (some (z1,a0.gone))).bind fun (z6:((List S_api_Op)×(List S_api_Tree)))=>(cond (decide (0 < (a0.come.length:Int))) ((Zam 240 z6.1 ([(⟨0,0,[],⟨0,⟨0,[],[]⟩,⟨0,[],[]⟩,[],[],0,[]⟩⟩:S_api_Op)]:List S_api_Op)).bind fun l16=>(Xk l16 (z6.1.length:Int)).bind fun x17=>some ((z6.1++[(⟨2,0,a0.come,⟨0,⟨0,[],[]⟩,⟨0,[],[]⟩,[],[],0,[]⟩⟩:S_api_Op)]),a0.come)) (some (z6.1,a0.come))).bind fun (z13:((List S_api_Op)×(List S_api_Tree)))=>some (⟨z13.1,0,[],[]⟩:Zs)
noncomputable def Uj (a0:Zs) (a1:Int):Option Zs :=
 (cond (a0.kept == 0) ((X4 (⟨a0.out,a0.kept,a0.gone,a0.come⟩:Zs)).bind fun y2=>some (y2.out,y2.gone,y2.come,y2.kept)) (some (a0.out,a0.gone,a0.come,a0.kept))).bind fun (z1:((List S_api_Op)×(List S_api_Tree)×(List S_api_Tree)×Int))=>some (⟨z1.1,(IntKind.i64.wrap (z1.2.2.2+a1)),z1.2.1,z1.2.2.1⟩:Zs)
noncomputable def K1 (a2:(List S_api_Tree)) (s0_:(Int×(List S_api_Tree))):Option ((Int×(List S_api_Tree)) ⊕ (List S_api_Tree)) :=
 cond (decide (s0_.1 < (a2.length:Int))) ((Xk a2 s0_.1).bind fun x5=>(Zc8 x5).bind fun y6=>(Zam 56 s0_.2 ([(⟨0,[],[]⟩:S_api_Tree)]:List S_api_Tree)).bind fun l7=>(Xk l7 (s0_.2.length:Int)).bind fun x8=>some (.inl ((IntKind.i64.wrap (s0_.1+1)),(s0_.2++[y6])))) (some (.inr s0_.2))
noncomputable def V6 (a0:Zs) (a2:(List S_api_Tree)):Option Zs :=
 (cond (decide (0 < a0.kept)) ((X4 (⟨a0.out,a0.kept,a0.gone,a0.come⟩:Zs)).bind fun y2=>some (y2.out,y2.gone,y2.come,y2.kept)) (some (a0.out,a0.gone,a0.come,a0.kept))).bind fun (z1:((List S_api_Op)×(List S_api_Tree)×(List S_api_Tree)×Int))=>(Zt (K1 a2) (0,z1.2.1)).bind fun (z11:(List S_api_Tree))=>some (⟨z1.1,z1.2.2.2,z11,z1.2.2.1⟩:Zs)
noncomputable def K2 (a2:(List S_api_Tree)) (s0_:(Int×(List S_api_Tree))):Option ((Int×(List S_api_Tree)) ⊕ (List S_api_Tree)) :=
 cond (decide (s0_.1 < (a2.length:Int))) ((Xk a2 s0_.1).bind fun x5=>(Zc8 x5).bind fun y6=>(Zam 56 s0_.2 ([(⟨0,[],[]⟩:S_api_Tree)]:List S_api_Tree)).bind fun l7=>(Xk l7 (s0_.2.length:Int)).bind fun x8=>some (.inl ((IntKind.i64.wrap (s0_.1+1)),(s0_.2++[y6])))) (some (.inr s0_.2))
noncomputable def V7 (a0:Zs) (a2:(List S_api_Tree)):Option Zs :=
 (cond (decide (0 < a0.kept)) ((X4 (⟨a0.out,a0.kept,a0.gone,a0.come⟩:Zs)).bind fun y2=>some (y2.out,y2.gone,y2.come,y2.kept)) (some (a0.out,a0.gone,a0.come,a0.kept))).bind fun (z1:((List S_api_Op)×(List S_api_Tree)×(List S_api_Tree)×Int))=>(Zt (K2 a2) (0,z1.2.2.1)).bind fun (z11:(List S_api_Tree))=>some (⟨z1.1,z1.2.2.2,z1.2.1,z11⟩:Zs)
noncomputable def Zgl (a0:Int) (a1:S_api_Edit):Option Bool :=
 some (cond (a1.Kind == 0) true (cond (cond (a0 == 9) (a1.Kind == 2) false) ((IntKind.i64.wrap ((a1.Words.length:Int)+(a1.Kids.length:Int))) == 0) false))
noncomputable def Ui (a0:Zs) (a1:Int) (a2:S_api_Edit):Option Zs :=
 (Zgl a1 a2).bind fun y2=>cond y2 ((Uj (⟨a0.out,a0.kept,a0.gone,a0.come⟩:Zs) 1).bind fun y4=>some (⟨y4.out,y4.kept,y4.gone,y4.come⟩:Zs)) ((X4 (⟨a0.out,a0.kept,a0.gone,a0.come⟩:Zs)).bind fun y6=>(Zam 240 y6.out ([(⟨0,0,[],⟨0,⟨0,[],[]⟩,⟨0,[],[]⟩,[],[],0,[]⟩⟩:S_api_Op)]:List S_api_Op)).bind fun l7=>(Xk l7 (y6.out.length:Int)).bind fun x8=>some (⟨(y6.out++[(⟨3,0,[],a2⟩:S_api_Op)]),y6.kept,y6.gone,y6.come⟩:Zs))
noncomputable def Zcm (Qo:(S_api_Edit→Option S_api_Edit)) (a0:S_api_Edit) (s0_:(Int×(List S_api_KidEdit))):Option ((Int×(List S_api_KidEdit)) ⊕ (List S_api_KidEdit)) :=
 cond (decide (s0_.1 < (a0.Kids.length:Int))) ((Xk a0.Kids s0_.1).bind fun x8=>(Qo x8.E).bind fun y9=>(Zam 208 s0_.2 ([(⟨x8.At,y9⟩:S_api_KidEdit)]:List S_api_KidEdit)).bind fun l10=>some (.inl ((IntKind.i64.wrap (s0_.1+1)),l10))) (some (.inr s0_.2))
noncomputable def Zgg (Qo:(S_api_Edit→Option S_api_Edit)) (G8:(Int→(List S_api_Op)→Option (List S_api_Op))) (a0:S_api_Edit):Option S_api_Edit :=
 cond (a0.Kind == 1) ((Zc8 a0.Old).bind fun y3=>(Zc8 a0.New).bind fun y4=>some (⟨1,y3,y4,[],[],0,[]⟩:S_api_Edit)) (cond (a0.Kind == 2) ((Kz a0.Words).bind fun y6=>(Zt (Zcm Qo a0) (0,([]:List S_api_KidEdit))).bind fun (z12:(List S_api_KidEdit))=>some (⟨2,⟨0,[],[]⟩,⟨0,[],[]⟩,y6,z12,0,[]⟩:S_api_Edit)) (cond (a0.Kind == 3) ((G8 a0.List_ a0.Ops).bind fun y14=>some (⟨3,⟨0,[],[]⟩,⟨0,[],[]⟩,[],[],a0.List_,y14⟩:S_api_Edit)) (some (⟨0,⟨0,[],[]⟩,⟨0,[],[]⟩,[],[],0,[]⟩:S_api_Edit))))
noncomputable def Zaw (Qo:(S_api_Edit→Option S_api_Edit)) (a0:Int) (a1:(List S_api_Op)) (s0_:(Int×Int×(List S_api_Op)×(List S_api_Tree)×(List S_api_Tree))):Option ((Int×Int×(List S_api_Op)×(List S_api_Tree)×(List S_api_Tree)) ⊕ (Int×(List S_api_Op)×(List S_api_Tree)×(List S_api_Tree))) :=
 cond (decide (s0_.1 < (a1.length:Int))) (((Xk a1 s0_.1).bind fun x3=>cond (x3.Kind == 0) ((Uj (⟨s0_.2.2.1,s0_.2.1,s0_.2.2.2.1,s0_.2.2.2.2⟩:Zs) x3.N).bind fun y4=>some (y4.kept,y4.out,y4.gone,y4.come)) (cond (x3.Kind == 1) ((V6 (⟨s0_.2.2.1,s0_.2.1,s0_.2.2.2.1,s0_.2.2.2.2⟩:Zs) x3.L).bind fun y5=>some (y5.kept,y5.out,y5.gone,y5.come)) (cond (x3.Kind == 2) ((V7 (⟨s0_.2.2.1,s0_.2.1,s0_.2.2.2.1,s0_.2.2.2.2⟩:Zs) x3.L).bind fun y6=>some (y6.kept,y6.out,y6.gone,y6.come)) (cond (x3.Kind == 3) ((Qo x3.E).bind fun y7=>(Ui (⟨s0_.2.2.1,s0_.2.1,s0_.2.2.2.1,s0_.2.2.2.2⟩:Zs) a0 y7).bind fun y8=>some (y8.kept,y8.out,y8.gone,y8.come)) (some (s0_.2.1,s0_.2.2.1,s0_.2.2.2.1,s0_.2.2.2.2)))))).bind fun (z1:(Int×(List S_api_Op)×(List S_api_Tree)×(List S_api_Tree)))=>some (.inl ((IntKind.i64.wrap (s0_.1+1)),z1.1,z1.2.1,z1.2.2.1,z1.2.2.2))) (some (.inr (s0_.2.1,s0_.2.2.1,s0_.2.2.2.1,s0_.2.2.2.2)))
noncomputable def Zf4 (Qo:(S_api_Edit→Option S_api_Edit)) (G8:(Int→(List S_api_Op)→Option (List S_api_Op))) (a0:Int) (a1:(List S_api_Op)):Option (List S_api_Op) :=
 (Zt (Zaw Qo a0 a1) (0,0,([]:List S_api_Op),([]:List S_api_Tree),([]:List S_api_Tree))).bind fun (z14:(Int×(List S_api_Op)×(List S_api_Tree)×(List S_api_Tree)))=>(X4 (⟨z14.2.1,z14.1,z14.2.2.1,z14.2.2.2⟩:Zs)).bind fun y16=>some y16.out
noncomputable def Qe:Nat→((S_api_Edit→Option S_api_Edit)×(Int→(List S_api_Op)→Option (List S_api_Op)))
 | 0=>((fun _=>none),(fun _ _=>none))
 | k+1=>(Zgg ((Qe k).1) ((Qe k).2),Zf4 ((Qe k).1) ((Qe k).2))
noncomputable def Zjg (a0:S_api_Edit):Option S_api_Edit:=lim fun k=>(Qe k).1 a0
noncomputable def Jg (a0:S_api_Edit):Option S_api_Edit :=
 (Zlq a0).bind fun y3=>(Zjg y3).bind fun y4=>some y4
noncomputable def Qp (a0:(List Int)) (a1:(List Int)) (s0_:Int):Option (Int ⊕ (Unit ⊕ Unit)) :=
 cond (decide (s0_ < (a0.length:Int))) ((Xk a0 s0_).bind fun x3=>(Xk a1 s0_).bind fun x4=>cond (x3 != x4) (some (.inr (.inl ()))) (some (.inl (IntKind.i64.wrap (s0_+1))))) (some (.inr (.inr ())))
noncomputable def X9 (a0:(List Int)) (a1:(List Int)):Option Bool :=
 cond ((a0.length:Int) != (a1.length:Int)) (some false) ((Zt (Qp a0 a1) 0).bind fun (z7:(Unit ⊕ Unit))=>match z7 with | .inl z7=>some false | .inr z7=>some true)
noncomputable def Zh9 (V9:(S_api_Tree→S_api_Tree→Option Bool)) (Zo:((List S_api_Tree)→(List S_api_Tree)→Option Bool)) (a0:S_api_Tree) (a1:S_api_Tree):Option Bool :=
 cond (a0.Kind != a1.Kind) (some false) (cond (a0.Kind == 0) (some true) (cond (a0.Kind == 1) (((Gy a0.Words).bind fun y14=>(Gy a1.Words).bind fun y15=>(X9 y14 y15).bind fun y16=>cond y16 ((Za0 a0.Kids).bind fun y17=>(Za0 a1.Kids).bind fun y18=>(Zo y17 y18).bind fun y19=>some (cond y16 y19 false)) (some false)).bind fun (z7:Bool)=>some z7) (((X9 a0.Words a1.Words).bind fun y26=>cond y26 ((Zo a0.Kids a1.Kids).bind fun y27=>some (cond y26 y27 false)) (some false)).bind fun (z23:Bool)=>some z23)))
noncomputable def Yc (V9:(S_api_Tree→S_api_Tree→Option Bool)) (a0:(List S_api_Tree)) (a1:(List S_api_Tree)) (s0_:Int):Option (Int ⊕ (Unit ⊕ Unit)) :=
 cond (decide (s0_ < (a0.length:Int))) ((Xk a0 s0_).bind fun x2=>(Xk a1 s0_).bind fun x4=>(V9 x2 x4).bind fun y6=>cond (!y6) (some (.inr (.inl ()))) (some (.inl (IntKind.i64.wrap (s0_+1))))) (some (.inr (.inr ())))
noncomputable def Yg (V9:(S_api_Tree→S_api_Tree→Option Bool)) (Zo:((List S_api_Tree)→(List S_api_Tree)→Option Bool)) (a0:(List S_api_Tree)) (a1:(List S_api_Tree)):Option Bool :=
 cond ((a0.length:Int) != (a1.length:Int)) (some false) ((Zt (Yc V9 a0 a1) 0).bind fun (z9:(Unit ⊕ Unit))=>match z9 with | .inl z9=>some false | .inr z9=>some true)
noncomputable def X3:Nat→((S_api_Tree→S_api_Tree→Option Bool)×((List S_api_Tree)→(List S_api_Tree)→Option Bool))
 | 0=>((fun _ _=>none),(fun _ _=>none))
 | k+1=>(Zh9 ((X3 k).1) ((X3 k).2),Yg ((X3 k).1) ((X3 k).2))
noncomputable def Zqe (a0:S_api_Tree) (a1:S_api_Tree):Option Bool:=lim fun k=>(X3 k).1 a0 a1
noncomputable def Y1 (a0:(List S_api_Tree)) (a1:(List S_api_Tree)):Option Bool:=lim fun k=>(X3 k).2 a0 a1
noncomputable def Zaz (a0:List Int):Option (List Int) :=
 Zam 8 ([]:List Int) a0
noncomputable def U2 (a0:List S_api_Tree):Option (List S_api_Tree) :=
 Zam 56 ([]:List S_api_Tree) a0
noncomputable def Zj8 (a0:S_api_Tree) (a1:Int):Option Int :=
 cond (cond (decide (a1 < 0)) true (decide ((a0.Words.length:Int)≤a1))) (some 0) ((Xk a0.Words a1).bind fun x2=>some x2)
noncomputable def Zbx (a0:Int):Option Bool :=
 some (cond (decide (a0 < 0)) true (decide (65534 < a0)))
noncomputable def Ze9 (a0:Int) (s0_:(Int×Int)):Option ((Int×Int) ⊕ Int) :=
 cond (decide (s0_.2 < 8)) (((Zuh (0≤s0_.2)).bind fun u3=>cond ((IntKind.u8.wrap (Zii .u8 (Int.fdiv a0 (2 ^ min (Int.toNat s0_.2) 8)) 1)) == 1) ((Zuh (0≤(IntKind.i64.wrap (8 * s0_.2)))).bind fun u4=>some (IntKind.u64.wrap (Zuk .u64 s0_.1 (IntKind.u64.wrap (255 * 2 ^ min (Int.toNat (IntKind.i64.wrap (8 * s0_.2))) 64))))) (some s0_.1)).bind fun (z1:Int)=>some (.inl (z1,(IntKind.i64.wrap (s0_.2+1))))) (some (.inr s0_.1))
noncomputable def Zc9 (a0:Int):Option Int :=
 (Zt (Ze9 a0) (0,0)).bind fun (z7:Int)=>some z7
noncomputable def Ze8 (a0:Int) (a1:Int) (a2:Int):Option Int :=
 (Zc9 a2).bind fun y2=>some (IntKind.u64.wrap (Zuk .u64 (IntKind.u64.wrap (Z1t .u64 a0 y2)) (IntKind.u64.wrap (Zii .u64 a1 y2))))
noncomputable def Zbq (a1:Int) (a2:Int) (s0_:(List Int)):Option ((List Int) ⊕ (List Int)) :=
 cond (cond (decide ((s0_.length:Int)≤a1)) (a2 != 0) false) ((Zam 8 s0_ ([0]:List Int)).bind fun l1=>some (.inl l1)) (some (.inr s0_))
noncomputable def Zd1 (a0:S_api_Tree) (a1:Int) (a2:Int):Option S_api_Tree :=
 (Zt (Zbq a1 a2) a0.Words).bind fun (z3:(List Int))=>cond (decide (a1 < (z3.length:Int))) ((Xk z3 a1).bind fun x4=>some (⟨a0.Kind,(Zg6 z3 a1 a2),a0.Kids⟩:S_api_Tree)) (some (⟨a0.Kind,z3,a0.Kids⟩:S_api_Tree))
noncomputable def Zmk (a0:S_api_Tree) (a1:Int):Option S_api_Tree :=
 cond (cond (decide (a1 < 0)) true (decide ((a0.Kids.length:Int)≤a1))) (some (⟨0,[],[]⟩:S_api_Tree)) ((Xk a0.Kids a1).bind fun x2=>some x2)
noncomputable def Zb9 (a1:Int) (a2:S_api_Tree) (s0_:(List S_api_Tree)):Option ((List S_api_Tree) ⊕ (List S_api_Tree)) :=
 cond (cond (decide ((s0_.length:Int)≤a1)) (a2.Kind != 0) false) ((Zam 56 s0_ ([(⟨0,[],[]⟩:S_api_Tree)]:List S_api_Tree)).bind fun l1=>(Xk l1 (s0_.length:Int)).bind fun x2=>some (.inl (s0_++[(⟨0,[],[]⟩:S_api_Tree)]))) (some (.inr s0_))
noncomputable def Ze6 (a0:S_api_Tree) (a1:Int) (a2:S_api_Tree):Option S_api_Tree :=
 (Zt (Zb9 a1 a2) a0.Kids).bind fun (z5:(List S_api_Tree))=>cond (decide (a1 < (z5.length:Int))) ((Xk z5 a1).bind fun x6=>some (⟨a0.Kind,a0.Words,(Zg6 z5 a1 a2)⟩:S_api_Tree)) (some (⟨a0.Kind,a0.Words,z5⟩:S_api_Tree))
noncomputable def Zj7 (a0:Int):Option Bool :=
 some (cond (decide (2≤a0)) (decide (a0≤9)) false)
structure Zg where
 left:(List S_api_Tree)
 out:(List S_api_Tree)
noncomputable def Zb3 (Y6:(S_api_Edit→S_api_Tree→Option (S_api_Tree×Bool))) (Yf:(S_api_Edit→S_api_Tree→Option (S_api_Tree×Bool))) (Xl:(S_api_Edit→S_api_Tree→Option (S_api_Tree×Bool))) (Z0:(Zg→S_api_Op→Option (Bool×Zg))) (Zy:(Zg→S_api_Edit→Option (Bool×Zg))) (a0:S_api_Edit) (a1:S_api_Tree):Option (S_api_Tree×Bool) :=
 cond (a0.Kind == 0) (some (a1,true)) (cond (a0.Kind == 1) ((Zqe a1 a0.Old).bind fun y2=>some (a0.New,y2)) (cond (a0.Kind == 2) ((Yf a0 a1).bind fun y4=>some (y4.1,y4.2)) (cond (a0.Kind == 3) ((Xl a0 a1).bind fun y6=>some (y6.1,y6.2)) (some ((⟨0,[],[]⟩:S_api_Tree),false)))))
noncomputable def Va (a0:S_api_Edit) (a1:S_api_Tree) (s0_:(Int×Int×(List Int)×(List S_api_Tree))):Option ((Int×Int×(List Int)×(List S_api_Tree)) ⊕ (Unit ⊕ (Int×(List Int)×(List S_api_Tree)))) :=
 cond (decide (s0_.1 < (a0.Words.length:Int))) ((Xk a0.Words s0_.1).bind fun x110=>(Zj8 a1 x110.At).bind fun y112=>((Zbx x110.At).bind fun y118=>cond y118 (some true) ((Zc9 x110.Mask).bind fun y119=>some (cond y118 true ((IntKind.u64.wrap (Zii .u64 (IntKind.u64.wrap (Zrl .u64 y112 x110.Old)) y119)) != 0)))).bind fun (z115:Bool)=>cond z115 (some (.inr (.inl ()))) ((Ze8 y112 x110.New x110.Mask).bind fun y121=>(Zd1 (⟨s0_.2.1,s0_.2.2.1,s0_.2.2.2⟩:S_api_Tree) x110.At y121).bind fun y122=>some (.inl ((IntKind.i64.wrap (s0_.1+1)),y122.Kind,y122.Words,y122.Kids)))) (some (.inr (.inr (s0_.2.1,s0_.2.2.1,s0_.2.2.2))))
noncomputable def Ji (Y6:(S_api_Edit→S_api_Tree→Option (S_api_Tree×Bool))) (a0:S_api_Edit) (a1:S_api_Tree) (s1_:(Int×Int×(List Int)×(List S_api_Tree))):Option ((Int×Int×(List Int)×(List S_api_Tree)) ⊕ (Unit ⊕ (Int×(List Int)×(List S_api_Tree)))) :=
 cond (decide (s1_.1 < (a0.Kids.length:Int))) ((Xk a0.Kids s1_.1).bind fun x127=>(Zmk a1 x127.At).bind fun y130=>(Y6 x127.E y130).bind fun y131=>(Zbx x127.At).bind fun y133=>cond (cond y133 true (!y131.2)) (some (.inr (.inl ()))) ((Ze6 (⟨s1_.2.1,s1_.2.2.1,s1_.2.2.2⟩:S_api_Tree) x127.At y131.1).bind fun y134=>some (.inl ((IntKind.i64.wrap (s1_.1+1)),y134.Kind,y134.Words,y134.Kids)))) (some (.inr (.inr (s1_.2.1,s1_.2.2.1,s1_.2.2.2))))
noncomputable def Zap (Y6:(S_api_Edit→S_api_Tree→Option (S_api_Tree×Bool))) (Yf:(S_api_Edit→S_api_Tree→Option (S_api_Tree×Bool))) (Xl:(S_api_Edit→S_api_Tree→Option (S_api_Tree×Bool))) (Z0:(Zg→S_api_Op→Option (Bool×Zg))) (Zy:(Zg→S_api_Edit→Option (Bool×Zg))) (a0:S_api_Edit) (a1:S_api_Tree):Option (S_api_Tree×Bool) :=
 cond (a1.Kind != 1) (some ((⟨0,[],[]⟩:S_api_Tree),false)) ((Zaz a1.Words).bind fun y25=>(U2 a1.Kids).bind fun y61=>(Zt (Va a0 a1) (0,1,y25,y61)).bind fun (z125:(Unit ⊕ (Int×(List Int)×(List S_api_Tree))))=>match z125 with | .inl z125=>some ((⟨0,[],[]⟩:S_api_Tree),false) | .inr z125=>(Zt (Ji Y6 a0 a1) (0,z125.1,z125.2.1,z125.2.2)).bind fun (z137:(Unit ⊕ (Int×(List Int)×(List S_api_Tree))))=>match z137 with | .inl z137=>some ((⟨0,[],[]⟩:S_api_Tree),false) | .inr z137=>some ((⟨z137.1,z137.2.1,z137.2.2⟩:S_api_Tree),true))
noncomputable def Gb (Z0:(Zg→S_api_Op→Option (Bool×Zg))) (a0:S_api_Edit) (s0_:(Int×(List S_api_Tree)×(List S_api_Tree))):Option ((Int×(List S_api_Tree)×(List S_api_Tree)) ⊕ (Unit ⊕ ((List S_api_Tree)×(List S_api_Tree)))) :=
 cond (decide (s0_.1 < (a0.Ops.length:Int))) ((Xk a0.Ops s0_.1).bind fun x7=>(Z0 (⟨s0_.2.1,s0_.2.2⟩:Zg) x7).bind fun y9=>cond (!y9.1) (some (.inr (.inl ()))) (some (.inl ((IntKind.i64.wrap (s0_.1+1)),y9.2.left,y9.2.out)))) (some (.inr (.inr (s0_.2.1,s0_.2.2))))
noncomputable def Zf3 (Y6:(S_api_Edit→S_api_Tree→Option (S_api_Tree×Bool))) (Yf:(S_api_Edit→S_api_Tree→Option (S_api_Tree×Bool))) (Xl:(S_api_Edit→S_api_Tree→Option (S_api_Tree×Bool))) (Z0:(Zg→S_api_Op→Option (Bool×Zg))) (Zy:(Zg→S_api_Edit→Option (Bool×Zg))) (a0:S_api_Edit) (a1:S_api_Tree):Option (S_api_Tree×Bool) :=
 (cond (a1.Kind != a0.List_) (some true) ((Zj7 a1.Kind).bind fun y4=>some (cond (a1.Kind != a0.List_) true (!y4)))).bind fun (z2:Bool)=>cond z2 (some ((⟨0,[],[]⟩:S_api_Tree),false)) ((Zt (Gb Z0 a0) (0,a1.Kids,([]:List S_api_Tree))).bind fun (z12:(Unit ⊕ ((List S_api_Tree)×(List S_api_Tree))))=>match z12 with | .inl z12=>some ((⟨0,[],[]⟩:S_api_Tree),false) | .inr z12=>some ((⟨a1.Kind,[],z12.2⟩:S_api_Tree),((z12.1.length:Int) == 0)))
noncomputable def Za1 (Y6:(S_api_Edit→S_api_Tree→Option (S_api_Tree×Bool))) (Yf:(S_api_Edit→S_api_Tree→Option (S_api_Tree×Bool))) (Xl:(S_api_Edit→S_api_Tree→Option (S_api_Tree×Bool))) (Z0:(Zg→S_api_Op→Option (Bool×Zg))) (Zy:(Zg→S_api_Edit→Option (Bool×Zg))) (a0:Zg) (a1:S_api_Op):Option (Bool×Zg) :=
 cond (a1.Kind == 0) ((cond (decide (a1.N < 0)) (some true) (some (cond (decide (a1.N < 0)) true (decide ((a0.left.length:Int) < a1.N))))).bind fun (z1:Bool)=>cond z1 (some (false,(⟨a0.left,a0.out⟩:Zg))) ((Zcz a0.left 0 a1.N).bind fun l5=>(Zam 56 a0.out l5).bind fun l6=>(Zcz a0.left a1.N (a0.left.length:Int)).bind fun l8=>some (true,(⟨l8,l6⟩:Zg)))) (cond (a1.Kind == 1) ((cond (decide ((a0.left.length:Int) < (a1.L.length:Int))) (some true) ((Zcz a0.left 0 (a1.L.length:Int)).bind fun l15=>(Y1 l15 a1.L).bind fun y16=>some (cond (decide ((a0.left.length:Int) < (a1.L.length:Int))) true (!y16)))).bind fun (z12:Bool)=>cond z12 (some (false,(⟨a0.left,a0.out⟩:Zg))) ((Zcz a0.left (a1.L.length:Int) (a0.left.length:Int)).bind fun l19=>some (true,(⟨l19,a0.out⟩:Zg)))) (cond (a1.Kind == 2) ((Zam 56 a0.out a1.L).bind fun l22=>some (true,(⟨a0.left,l22⟩:Zg))) (cond (a1.Kind == 3) ((Zy (⟨a0.left,a0.out⟩:Zg) a1.E).bind fun y24=>some (y24.1,(⟨y24.2.left,y24.2.out⟩:Zg))) (some (false,(⟨a0.left,a0.out⟩:Zg))))))
noncomputable def U0 (Y6:(S_api_Edit→S_api_Tree→Option (S_api_Tree×Bool))) (Yf:(S_api_Edit→S_api_Tree→Option (S_api_Tree×Bool))) (Xl:(S_api_Edit→S_api_Tree→Option (S_api_Tree×Bool))) (Z0:(Zg→S_api_Op→Option (Bool×Zg))) (Zy:(Zg→S_api_Edit→Option (Bool×Zg))) (a0:Zg) (a1:S_api_Edit):Option (Bool×Zg) :=
 cond ((a0.left.length:Int) == 0) (some (false,(⟨a0.left,a0.out⟩:Zg))) ((Xk a0.left 0).bind fun x3=>(Y6 a1 x3).bind fun y4=>(Zam 56 a0.out ([(⟨0,[],[]⟩:S_api_Tree)]:List S_api_Tree)).bind fun l8=>(Xk l8 (a0.out.length:Int)).bind fun x9=>(Zcz a0.left 1 (a0.left.length:Int)).bind fun l12=>some (y4.2,(⟨l12,(a0.out++[y4.1])⟩:Zg)))
noncomputable def Zm:Nat→((S_api_Edit→S_api_Tree→Option (S_api_Tree×Bool))×(S_api_Edit→S_api_Tree→Option (S_api_Tree×Bool))×(S_api_Edit→S_api_Tree→Option (S_api_Tree×Bool))×(Zg→S_api_Op→Option (Bool×Zg))×(Zg→S_api_Edit→Option (Bool×Zg)))
 | 0=>((fun _ _=>none),(fun _ _=>none),(fun _ _=>none),(fun _ _=>none),(fun _ _=>none))
 | k+1=>(Zb3 ((Zm k).1) ((Zm k).2.1) ((Zm k).2.2.1) ((Zm k).2.2.2.1) ((Zm k).2.2.2.2),Zap ((Zm k).1) ((Zm k).2.1) ((Zm k).2.2.1) ((Zm k).2.2.2.1) ((Zm k).2.2.2.2),Zf3 ((Zm k).1) ((Zm k).2.1) ((Zm k).2.2.1) ((Zm k).2.2.2.1) ((Zm k).2.2.2.2),Za1 ((Zm k).1) ((Zm k).2.1) ((Zm k).2.2.1) ((Zm k).2.2.2.1) ((Zm k).2.2.2.2),U0 ((Zm k).1) ((Zm k).2.1) ((Zm k).2.2.1) ((Zm k).2.2.2.1) ((Zm k).2.2.2.2))
noncomputable def Zqd (a0:S_api_Edit) (a1:S_api_Tree):Option (S_api_Tree×Bool):=lim fun k=>(Zm k).1 a0 a1
noncomputable def Xq (a0:S_api_Edit) (a1:S_api_Tree):Option (S_api_Tree×Bool) :=
 (Zqd a0 a1).bind fun y2=>cond (!y2.2) (some ((⟨0,[],[]⟩:S_api_Tree),false)) ((Zc8 y2.1).bind fun y4=>some (y4,true))
noncomputable def Xx (a0:Zf):Option Int :=
 some a0.At
noncomputable def Ze7 (a0:Zf) (a1:Zf):Option (Zf×Bool) :=
 (Zc9 (IntKind.u8.wrap (Zii .u8 a0.Mask a1.Mask))).bind fun y2=>cond ((IntKind.u64.wrap (Zii .u64 (IntKind.u64.wrap (Zrl .u64 a0.New a1.Old)) y2)) != 0) (some ((⟨0,0,0,0⟩:Zf),false)) ((Ze8 a1.Old a0.Old a0.Mask).bind fun y5=>(Ze8 a0.New a1.New a1.Mask).bind fun y6=>some ((⟨a0.At,(IntKind.u8.wrap (Zuk .u8 a0.Mask a1.Mask)),y5,y6⟩:Zf),true))
noncomputable def Ys (s0_:((List Zf)×(List Zf)×(List Zf))):Option (((List Zf)×(List Zf)×(List Zf)) ⊕ (Unit ⊕ ((List Zf)×(List Zf)×(List Zf)))) :=
 cond (cond (decide (0 < (s0_.1.length:Int))) (decide (0 < (s0_.2.1.length:Int))) false) ((Xk s0_.1 0).bind fun x5=>(Xx x5).bind fun y6=>(Xk s0_.2.1 0).bind fun x7=>(Xx x7).bind fun y8=>cond (decide (y6 < y8)) ((Xk s0_.1 0).bind fun x9=>(Zcz s0_.1 1 (s0_.1.length:Int)).bind fun l10=>(Zam 32 s0_.2.2 ([x9]:List Zf)).bind fun l11=>some (.inl (l10,s0_.2.1,l11))) ((Xk s0_.2.1 0).bind fun x16=>(Xx x16).bind fun y17=>(Xk s0_.1 0).bind fun x18=>(Xx x18).bind fun y19=>cond (decide (y17 < y19)) ((Xk s0_.2.1 0).bind fun x20=>(Zcz s0_.2.1 1 (s0_.2.1.length:Int)).bind fun l21=>(Zam 32 s0_.2.2 ([x20]:List Zf)).bind fun l22=>some (.inl (s0_.1,l21,l22))) ((Xk s0_.1 0).bind fun x26=>(Xk s0_.2.1 0).bind fun x27=>(Ze7 x26 x27).bind fun y28=>cond (!y28.2) (some (.inr (.inl ()))) ((Zcz s0_.1 1 (s0_.1.length:Int)).bind fun l29=>(Zcz s0_.2.1 1 (s0_.2.1.length:Int)).bind fun l30=>(Zam 32 s0_.2.2 ([y28.1]:List Zf)).bind fun l31=>some (.inl (l29,l30,l31)))))) (some (.inr (.inr (s0_.1,s0_.2.1,s0_.2.2))))
noncomputable def Xs (a0:(List Zf)) (a1:(List Zf)):Option ((List Zf)×Bool) :=
 (Zt (Ys) (a0,a1,([]:List Zf))).bind fun (z36:(Unit ⊕ ((List Zf)×(List Zf)×(List Zf))))=>match z36 with | .inl z36=>some (([]:(List Zf)),false) | .inr z36=>(Zam 32 z36.2.2 z36.1).bind fun l39=>(Zam 32 l39 z36.2.1).bind fun l40=>some (l40,true)
noncomputable def Xy (a0:S_api_KidEdit):Option Int :=
 some a0.At
noncomputable def Zik (a0:S_api_Op):Option Int :=
 cond (a0.Kind == 0) (some a0.N) ((cond (a0.Kind == 1) (some (a0.Kind == 1)) (some (a0.Kind == 2))).bind fun (z1:Bool)=>cond z1 (some (a0.L.length:Int)) (some 1))
structure Y0 where
 left:(List S_api_Op)
 gone:Int
noncomputable def Kg (s0_:((List S_api_Op)×Int)):Option (((List S_api_Op)×Int) ⊕ ((Int×Int×(List S_api_Op)×Int) ⊕ ((List S_api_Op)×Int))) :=
 cond (decide (0 < (s0_.1.length:Int))) ((Xk s0_.1 0).bind fun x3=>(Zik x3).bind fun y4=>cond (decide (0 < (IntKind.i64.wrap (y4 - s0_.2)))) ((Xk s0_.1 0).bind fun x7=>some (.inr (.inl (x7.Kind,(IntKind.i64.wrap (y4 - s0_.2)),s0_.1,s0_.2)))) ((Zcz s0_.1 1 (s0_.1.length:Int)).bind fun l9=>some (.inl (l9,0)))) (some (.inr (.inr (s0_.1,s0_.2))))
noncomputable def Ym (a0:Y0):Option (Int×Int×Y0) :=
 (Zt (Kg) (a0.left,a0.gone)).bind fun (z12:((Int×Int×(List S_api_Op)×Int) ⊕ ((List S_api_Op)×Int)))=>match z12 with | .inl z12=>some (z12.1,z12.2.1,(⟨z12.2.2.1,z12.2.2.2⟩:Y0)) | .inr z12=>some (0,0,(⟨z12.1,z12.2⟩:Y0))
noncomputable def Kl (a0:Y0) (a1:Int):Option (S_api_Op×Y0) :=
 (Xk a0.left 0).bind fun x2=>(cond (x2.Kind == 0) (some (a1,x2.L)) ((cond (x2.Kind == 1) (some (x2.Kind == 1)) (some (x2.Kind == 2))).bind fun (z4:Bool)=>cond z4 ((Zcz x2.L a0.gone (IntKind.i64.wrap (a0.gone+a1))).bind fun l6=>some (x2.N,l6)) (some (x2.N,x2.L)))).bind fun (z3:(Int×(List S_api_Tree)))=>some ((⟨x2.Kind,z3.1,z3.2,x2.E⟩:S_api_Op),(⟨a0.left,(IntKind.i64.wrap (a0.gone+a1))⟩:Y0))
structure Zr where
 Of:Int
 P:S_api_Op
 Q:S_api_Op
noncomputable def Jf (a2:Int) (a3:Int) (s0_:((List S_api_Op)×Int×(List S_api_Op)×Int×(List Zr))):Option (((List S_api_Op)×Int×(List S_api_Op)×Int×(List Zr)) ⊕ ((List Zr)×Bool)) :=
 (Ym (⟨s0_.1,s0_.2.1⟩:Y0)).bind fun y2=>(Ym (⟨s0_.2.2.1,s0_.2.2.2.1⟩:Y0)).bind fun y4=>cond (cond (decide (0 < y2.2.1)) (y2.1 == a2) false) ((Kl y2.2.2 y2.2.1).bind fun y5=>(Zam 488 s0_.2.2.2.2 ([(⟨1,y5.1,⟨0,0,[],⟨0,⟨0,[],[]⟩,⟨0,[],[]⟩,[],[],0,[]⟩⟩⟩:Zr)]:List Zr)).bind fun l6=>some (.inl (y5.2.left,y5.2.gone,y4.2.2.left,y4.2.2.gone,l6))) (cond (cond (decide (0 < y4.2.1)) (y4.1 == a3) false) ((Kl y4.2.2 y4.2.1).bind fun y7=>(Zam 488 s0_.2.2.2.2 ([(⟨2,⟨0,0,[],⟨0,⟨0,[],[]⟩,⟨0,[],[]⟩,[],[],0,[]⟩⟩,y7.1⟩:Zr)]:List Zr)).bind fun l8=>some (.inl (y2.2.2.left,y2.2.2.gone,y7.2.left,y7.2.gone,l8))) (cond (cond (y2.2.1 == 0) (y4.2.1 == 0) false) (some (.inr (s0_.2.2.2.2,true))) (cond (cond (y2.2.1 == 0) true (y4.2.1 == 0)) (some (.inr (([]:(List Zr)),false))) ((Kl y2.2.2 (if y4.2.1 < y2.2.1 then y4.2.1 else y2.2.1)).bind fun y9=>(Kl y4.2.2 (if y4.2.1 < y2.2.1 then y4.2.1 else y2.2.1)).bind fun y10=>(Zam 488 s0_.2.2.2.2 ([(⟨0,y9.1,y10.1⟩:Zr)]:List Zr)).bind fun l11=>some (.inl (y9.2.left,y9.2.gone,y10.2.left,y10.2.gone,l11))))))
noncomputable def Zil (a0:(List S_api_Op)) (a1:(List S_api_Op)) (a2:Int) (a3:Int):Option ((List Zr)×Bool) :=
 (Zt (Jf a2 a3) (a0,0,a1,0,([]:List Zr))).bind fun (z16:((List Zr)×Bool))=>some (z16.1,z16.2)
noncomputable def Zbp (a0:(List S_api_Op)) (a1:(List S_api_Op)):Option ((List Zr)×Bool) :=
 (Zil a0 a1 1 2).bind fun y2=>some (y2.1,y2.2)
noncomputable def Zer (Yi:(S_api_Edit→S_api_Edit→Option (S_api_Edit×Bool))) (Zx:(S_api_Edit→S_api_Edit→Option (S_api_Edit×Bool))) (Ye:(S_api_Edit→S_api_Edit→Option (S_api_Edit×Bool))) (Zl:((List S_api_KidEdit)→(List S_api_KidEdit)→Option ((List S_api_KidEdit)×Bool))) (Zv:(S_api_KidEdit→S_api_KidEdit→Option (S_api_KidEdit×Bool))) (Z8:(Zr→Option ((List S_api_Op)×Bool))) (a0:S_api_Edit) (a1:S_api_Edit):Option (S_api_Edit×Bool) :=
 cond (a0.Kind == 0) (some (a1,true)) (cond (a1.Kind == 0) (some (a0,true)) (cond (a0.Kind == 1) ((Xq a1 a0.New).bind fun y2=>some ((⟨1,a0.Old,y2.1,[],[],0,[]⟩:S_api_Edit),y2.2)) (cond (a1.Kind == 1) ((Jg a0).bind fun y5=>(Xq y5 a1.Old).bind fun y6=>some ((⟨1,y6.1,a1.New,[],[],0,[]⟩:S_api_Edit),y6.2)) (cond (cond (a0.Kind == 2) (a1.Kind == 2) false) ((Zx a0 a1).bind fun y8=>some (y8.1,y8.2)) (cond (cond (cond (a0.Kind == 3) (a1.Kind == 3) false) (a0.List_ == a1.List_) false) ((Ye a0 a1).bind fun y10=>some (y10.1,y10.2)) (some ((⟨0,⟨0,[],[]⟩,⟨0,[],[]⟩,[],[],0,[]⟩:S_api_Edit),false)))))))
noncomputable def Zab (Yi:(S_api_Edit→S_api_Edit→Option (S_api_Edit×Bool))) (Zx:(S_api_Edit→S_api_Edit→Option (S_api_Edit×Bool))) (Ye:(S_api_Edit→S_api_Edit→Option (S_api_Edit×Bool))) (Zl:((List S_api_KidEdit)→(List S_api_KidEdit)→Option ((List S_api_KidEdit)×Bool))) (Zv:(S_api_KidEdit→S_api_KidEdit→Option (S_api_KidEdit×Bool))) (Z8:(Zr→Option ((List S_api_Op)×Bool))) (a0:S_api_Edit) (a1:S_api_Edit):Option (S_api_Edit×Bool) :=
 (Xs a0.Words a1.Words).bind fun y2=>(Zl a0.Kids a1.Kids).bind fun y4=>some ((⟨2,⟨0,[],[]⟩,⟨0,[],[]⟩,y2.1,y4.1,0,[]⟩:S_api_Edit),(cond y2.2 y4.2 false))
noncomputable def Xu (Z8:(Zr→Option ((List S_api_Op)×Bool))) (y2:((List Zr)×Bool)) (s0_:(Int×(List S_api_Op))):Option ((Int×(List S_api_Op)) ⊕ (Unit ⊕ (List S_api_Op))) :=
 cond (decide (s0_.1 < (y2.1.length:Int))) ((Xk y2.1 s0_.1).bind fun x4=>(Z8 x4).bind fun y6=>cond (!y6.2) (some (.inr (.inl ()))) ((Zam 240 s0_.2 y6.1).bind fun l7=>some (.inl ((IntKind.i64.wrap (s0_.1+1)),l7)))) (some (.inr (.inr s0_.2)))
noncomputable def Zdx (Yi:(S_api_Edit→S_api_Edit→Option (S_api_Edit×Bool))) (Zx:(S_api_Edit→S_api_Edit→Option (S_api_Edit×Bool))) (Ye:(S_api_Edit→S_api_Edit→Option (S_api_Edit×Bool))) (Zl:((List S_api_KidEdit)→(List S_api_KidEdit)→Option ((List S_api_KidEdit)×Bool))) (Zv:(S_api_KidEdit→S_api_KidEdit→Option (S_api_KidEdit×Bool))) (Z8:(Zr→Option ((List S_api_Op)×Bool))) (a0:S_api_Edit) (a1:S_api_Edit):Option (S_api_Edit×Bool) :=
 (Zbp a0.Ops a1.Ops).bind fun y2=>cond (!y2.2) (some ((⟨0,⟨0,[],[]⟩,⟨0,[],[]⟩,[],[],0,[]⟩:S_api_Edit),false)) ((Zt (Xu Z8 y2) (0,([]:List S_api_Op))).bind fun (z10:(Unit ⊕ (List S_api_Op)))=>match z10 with | .inl z10=>some ((⟨0,⟨0,[],[]⟩,⟨0,[],[]⟩,[],[],0,[]⟩:S_api_Edit),false) | .inr z10=>some ((⟨3,⟨0,[],[]⟩,⟨0,[],[]⟩,[],[],a0.List_,z10⟩:S_api_Edit),true))
noncomputable def Yv (Zv:(S_api_KidEdit→S_api_KidEdit→Option (S_api_KidEdit×Bool))) (s0_:((List S_api_KidEdit)×(List S_api_KidEdit)×(List S_api_KidEdit))):Option (((List S_api_KidEdit)×(List S_api_KidEdit)×(List S_api_KidEdit)) ⊕ (Unit ⊕ ((List S_api_KidEdit)×(List S_api_KidEdit)×(List S_api_KidEdit)))) :=
 cond (cond (decide (0 < (s0_.1.length:Int))) (decide (0 < (s0_.2.1.length:Int))) false) ((Xk s0_.1 0).bind fun x5=>(Xy x5).bind fun y6=>(Xk s0_.2.1 0).bind fun x7=>(Xy x7).bind fun y8=>cond (decide (y6 < y8)) ((Xk s0_.1 0).bind fun x9=>(Zcz s0_.1 1 (s0_.1.length:Int)).bind fun l10=>(Zam 208 s0_.2.2 ([x9]:List S_api_KidEdit)).bind fun l11=>some (.inl (l10,s0_.2.1,l11))) ((Xk s0_.2.1 0).bind fun x16=>(Xy x16).bind fun y17=>(Xk s0_.1 0).bind fun x18=>(Xy x18).bind fun y19=>cond (decide (y17 < y19)) ((Xk s0_.2.1 0).bind fun x20=>(Zcz s0_.2.1 1 (s0_.2.1.length:Int)).bind fun l21=>(Zam 208 s0_.2.2 ([x20]:List S_api_KidEdit)).bind fun l22=>some (.inl (s0_.1,l21,l22))) ((Xk s0_.1 0).bind fun x26=>(Xk s0_.2.1 0).bind fun x27=>(Zv x26 x27).bind fun y28=>cond (!y28.2) (some (.inr (.inl ()))) ((Zcz s0_.1 1 (s0_.1.length:Int)).bind fun l29=>(Zcz s0_.2.1 1 (s0_.2.1.length:Int)).bind fun l30=>(Zam 208 s0_.2.2 ([y28.1]:List S_api_KidEdit)).bind fun l31=>some (.inl (l29,l30,l31)))))) (some (.inr (.inr (s0_.1,s0_.2.1,s0_.2.2))))
noncomputable def Xw (Yi:(S_api_Edit→S_api_Edit→Option (S_api_Edit×Bool))) (Zx:(S_api_Edit→S_api_Edit→Option (S_api_Edit×Bool))) (Ye:(S_api_Edit→S_api_Edit→Option (S_api_Edit×Bool))) (Zl:((List S_api_KidEdit)→(List S_api_KidEdit)→Option ((List S_api_KidEdit)×Bool))) (Zv:(S_api_KidEdit→S_api_KidEdit→Option (S_api_KidEdit×Bool))) (Z8:(Zr→Option ((List S_api_Op)×Bool))) (a0:(List S_api_KidEdit)) (a1:(List S_api_KidEdit)):Option ((List S_api_KidEdit)×Bool) :=
 (Zt (Yv Zv) (a0,a1,([]:List S_api_KidEdit))).bind fun (z36:(Unit ⊕ ((List S_api_KidEdit)×(List S_api_KidEdit)×(List S_api_KidEdit))))=>match z36 with | .inl z36=>some (([]:(List S_api_KidEdit)),false) | .inr z36=>(Zam 208 z36.2.2 z36.1).bind fun l39=>(Zam 208 l39 z36.2.1).bind fun l40=>some (l40,true)
noncomputable def Zdl (Yi:(S_api_Edit→S_api_Edit→Option (S_api_Edit×Bool))) (Zx:(S_api_Edit→S_api_Edit→Option (S_api_Edit×Bool))) (Ye:(S_api_Edit→S_api_Edit→Option (S_api_Edit×Bool))) (Zl:((List S_api_KidEdit)→(List S_api_KidEdit)→Option ((List S_api_KidEdit)×Bool))) (Zv:(S_api_KidEdit→S_api_KidEdit→Option (S_api_KidEdit×Bool))) (Z8:(Zr→Option ((List S_api_Op)×Bool))) (a0:S_api_KidEdit) (a1:S_api_KidEdit):Option (S_api_KidEdit×Bool) :=
 (Yi a0.E a1.E).bind fun y2=>some ((⟨a0.At,y2.1⟩:S_api_KidEdit),y2.2)
noncomputable def Zdy (Yi:(S_api_Edit→S_api_Edit→Option (S_api_Edit×Bool))) (Zx:(S_api_Edit→S_api_Edit→Option (S_api_Edit×Bool))) (Ye:(S_api_Edit→S_api_Edit→Option (S_api_Edit×Bool))) (Zl:((List S_api_KidEdit)→(List S_api_KidEdit)→Option ((List S_api_KidEdit)×Bool))) (Zv:(S_api_KidEdit→S_api_KidEdit→Option (S_api_KidEdit×Bool))) (Z8:(Zr→Option ((List S_api_Op)×Bool))) (a0:Zr):Option ((List S_api_Op)×Bool) :=
 cond (cond (a0.Of == 1) true (cond (a0.Of == 0) (a0.Q.Kind == 0) false)) (some (([a0.P]:List S_api_Op),true)) (cond (cond (a0.Of == 2) true (a0.P.Kind == 0)) (some (([a0.Q]:List S_api_Op),true)) (cond (cond (a0.P.Kind == 2) (a0.Q.Kind == 1) false) ((Y1 a0.P.L a0.Q.L).bind fun y2=>some (([]:(List S_api_Op)),y2)) (cond (a0.P.Kind == 2) ((Xk a0.P.L 0).bind fun x5=>(Xq a0.Q.E x5).bind fun y6=>some (([(⟨2,0,([y6.1]:List S_api_Tree),⟨0,⟨0,[],[]⟩,⟨0,[],[]⟩,[],[],0,[]⟩⟩:S_api_Op)]:List S_api_Op),y6.2)) (cond (a0.Q.Kind == 1) ((Jg a0.P.E).bind fun y10=>(Xk a0.Q.L 0).bind fun x11=>(Xq y10 x11).bind fun y12=>some (([(⟨1,0,([y12.1]:List S_api_Tree),⟨0,⟨0,[],[]⟩,⟨0,[],[]⟩,[],[],0,[]⟩⟩:S_api_Op)]:List S_api_Op),y12.2)) ((Yi a0.P.E a0.Q.E).bind fun y14=>some (([(⟨3,0,[],y14.1⟩:S_api_Op)]:List S_api_Op),y14.2))))))
noncomputable def Zh:Nat→((S_api_Edit→S_api_Edit→Option (S_api_Edit×Bool))×(S_api_Edit→S_api_Edit→Option (S_api_Edit×Bool))×(S_api_Edit→S_api_Edit→Option (S_api_Edit×Bool))×((List S_api_KidEdit)→(List S_api_KidEdit)→Option ((List S_api_KidEdit)×Bool))×(S_api_KidEdit→S_api_KidEdit→Option (S_api_KidEdit×Bool))×(Zr→Option ((List S_api_Op)×Bool)))
 | 0=>((fun _ _=>none),(fun _ _=>none),(fun _ _=>none),(fun _ _=>none),(fun _ _=>none),(fun _=>none))
 | k+1=>(Zer ((Zh k).1) ((Zh k).2.1) ((Zh k).2.2.1) ((Zh k).2.2.2.1) ((Zh k).2.2.2.2.1) ((Zh k).2.2.2.2.2),Zab ((Zh k).1) ((Zh k).2.1) ((Zh k).2.2.1) ((Zh k).2.2.2.1) ((Zh k).2.2.2.2.1) ((Zh k).2.2.2.2.2),Zdx ((Zh k).1) ((Zh k).2.1) ((Zh k).2.2.1) ((Zh k).2.2.2.1) ((Zh k).2.2.2.2.1) ((Zh k).2.2.2.2.2),Xw ((Zh k).1) ((Zh k).2.1) ((Zh k).2.2.1) ((Zh k).2.2.2.1) ((Zh k).2.2.2.2.1) ((Zh k).2.2.2.2.2),Zdl ((Zh k).1) ((Zh k).2.1) ((Zh k).2.2.1) ((Zh k).2.2.2.1) ((Zh k).2.2.2.2.1) ((Zh k).2.2.2.2.2),Zdy ((Zh k).1) ((Zh k).2.1) ((Zh k).2.2.1) ((Zh k).2.2.2.1) ((Zh k).2.2.2.2.1) ((Zh k).2.2.2.2.2))
noncomputable def Zin (a0:S_api_Edit) (a1:S_api_Edit):Option (S_api_Edit×Bool):=lim fun k=>(Zh k).1 a0 a1
noncomputable def Kh (a0:S_api_Edit) (a1:S_api_Edit):Option (S_api_Edit×Bool) :=
 (Zin a0 a1).bind fun y2=>cond (!y2.2) (some ((⟨0,⟨0,[],[]⟩,⟨0,[],[]⟩,[],[],0,[]⟩:S_api_Edit),false)) ((Zjg y2.1).bind fun y4=>some (y4,true))
noncomputable def Vi :Option Bool :=
 (Jg (⟨3,⟨0,[],[]⟩,⟨0,[],[]⟩,[],[],4,([(⟨2,0,([(⟨10,([1]:List Int),[]⟩:S_api_Tree)]:List S_api_Tree),⟨0,⟨0,[],[]⟩,⟨0,[],[]⟩,[],[],0,[]⟩⟩:S_api_Op),(⟨0,1,[],⟨0,⟨0,[],[]⟩,⟨0,[],[]⟩,[],[],0,[]⟩⟩:S_api_Op)]:List S_api_Op)⟩:S_api_Edit)).bind fun y3=>(Kh (⟨3,⟨0,[],[]⟩,⟨0,[],[]⟩,[],[],4,([(⟨2,0,([(⟨10,([1]:List Int),[]⟩:S_api_Tree)]:List S_api_Tree),⟨0,⟨0,[],[]⟩,⟨0,[],[]⟩,[],[],0,[]⟩⟩:S_api_Op),(⟨0,1,[],⟨0,⟨0,[],[]⟩,⟨0,[],[]⟩,[],[],0,[]⟩⟩:S_api_Op)]:List S_api_Op)⟩:S_api_Edit) y3).bind fun y4=>(Xq y4.1 (⟨4,[],([(⟨10,([1]:List Int),[]⟩:S_api_Tree)]:List S_api_Tree)⟩:S_api_Tree)).bind fun y6=>(cond y4.2 (cond y6.2 (cond ((y4.1.Ops.length:Int) == 1) ((Xk y4.1.Ops 0).bind fun x12=>some (cond (cond (cond (cond y4.2 y6.2 false) ((y4.1.Ops.length:Int) == 1) false) (x12.N == 1) false) ((y6.1.Kids.length:Int) == 1) false)) (some false)) (some false)) (some false)).bind fun (z9:Bool)=>some z9
noncomputable def Vf (a0:S_api_Edit) (a1:Bool):Option Bool :=
 (cond a1 ((Qg a0).bind fun y4=>some (cond (!a1) true y4)) (some true)).bind fun (z2:Bool)=>some z2
noncomputable def Zae (a0:(List Int)) (a1:(List Int)) (s0_:Int):Option (Int ⊕ (Unit ⊕ Unit)) :=
 cond (decide (s0_ < (a0.length:Int))) ((Xk a0 s0_).bind fun x3=>(Xk a1 s0_).bind fun x4=>cond (x3 != x4) (some (.inr (.inl ()))) (some (.inl (IntKind.i64.wrap (s0_+1))))) (some (.inr (.inr ())))
noncomputable def Zca (a0:(List Int)) (a1:(List Int)):Option Bool :=
 cond ((a0.length:Int) != (a1.length:Int)) (some false) ((Zt (Zae a0 a1) 0).bind fun (z7:(Unit ⊕ Unit))=>match z7 with | .inl z7=>some false | .inr z7=>some true)
noncomputable def Zaa (Vt:(S_api_Tree→S_api_Tree→Option Bool)) (a0:S_api_Tree) (a1:S_api_Tree) (s0_:Int):Option (Int ⊕ (Unit ⊕ Unit)) :=
 cond (decide (s0_ < (a0.Kids.length:Int))) ((Xk a0.Kids s0_).bind fun x9=>(Xk a1.Kids s0_).bind fun x10=>(Vt x9 x10).bind fun y11=>cond (!y11) (some (.inr (.inl ()))) (some (.inl (IntKind.i64.wrap (s0_+1))))) (some (.inr (.inr ())))
noncomputable def Zb4 (Vt:(S_api_Tree→S_api_Tree→Option Bool)) (a0:S_api_Tree) (a1:S_api_Tree):Option Bool :=
 (cond (a0.Kind != a1.Kind) (some true) ((Zca a0.Words a1.Words).bind fun y4=>some (cond (cond (a0.Kind != a1.Kind) true (!y4)) true ((a0.Kids.length:Int) != (a1.Kids.length:Int))))).bind fun (z2:Bool)=>cond z2 (some false) ((Zt (Zaa Vt a0 a1) 0).bind fun (z14:(Unit ⊕ Unit))=>match z14 with | .inl z14=>some false | .inr z14=>some true)
noncomputable def Ub:Nat→(S_api_Tree→S_api_Tree→Option Bool)
 | 0=>(fun _ _=>none)
 | k+1=>Zb4 ((Ub k))
noncomputable def Zim (a0:S_api_Tree) (a1:S_api_Tree):Option Bool:=lim fun k=>(Ub k) a0 a1
noncomputable def G7 (a0:S_api_Edit) (a1:S_api_Edit) (a2:S_api_Edit) (a3:S_api_Tree):Option Bool :=
 ((Qg a0).bind fun y10=>cond y10 ((Qg a1).bind fun y11=>cond y11 ((Qg a2).bind fun y12=>cond y12 ((Zd2 a3).bind fun y13=>some (cond (cond (cond (!y10) true (!y11)) true (!y12)) true (!y13))) (some true)) (some true)) (some true)).bind fun (z5:Bool)=>cond z5 ((Vi).bind fun y18=>some y18) ((Kh a0 a1).bind fun y20=>(Kh a1 a2).bind fun y22=>((Vf y20.1 y20.2).bind fun y28=>cond y28 ((Vf y22.1 y22.2).bind fun y29=>some (cond (!y28) true (!y29))) (some true)).bind fun (z25:Bool)=>cond z25 ((Vi).bind fun y32=>some y32) ((Kh y20.1 a2).bind fun y34=>(Kh a0 y22.1).bind fun y36=>(cond ((cond y34.2 y20.2 false) != (cond y36.2 y22.2 false)) (some true) (cond y34.2 (cond y20.2 ((Vf y34.1 true).bind fun y42=>cond y42 ((Vf y36.1 true).bind fun y43=>some (cond ((cond y34.2 y20.2 false) != (cond y36.2 y22.2 false)) true (cond (cond y34.2 y20.2 false) (cond (!y42) true (!y43)) false))) (some (cond ((cond y34.2 y20.2 false) != (cond y36.2 y22.2 false)) true (cond (cond y34.2 y20.2 false) true false)))) (some (cond ((cond y34.2 y20.2 false) != (cond y36.2 y22.2 false)) true false))) (some (cond ((cond y34.2 y20.2 false) != (cond y36.2 y22.2 false)) true false)))).bind fun (z39:Bool)=>cond z39 ((cond ((cond y34.2 y20.2 false) == (cond y36.2 y22.2 false)) ((Vi).bind fun y51=>some (cond ((cond y34.2 y20.2 false) == (cond y36.2 y22.2 false)) y51 false)) (some false)).bind fun (z49:Bool)=>some z49) (cond (!(cond y34.2 y20.2 false)) ((Vi).bind fun y54=>some y54) ((Xq y34.1 a3).bind fun y56=>(Xq y36.1 a3).bind fun y58=>(cond (y56.2 == y58.2) ((Zim y56.1 y58.1).bind fun y64=>cond y64 ((Vi).bind fun y65=>some (cond (cond (y56.2 == y58.2) y64 false) y65 false)) (some false)) (some false)).bind fun (z61:Bool)=>some z61))))
mutual
def Zcg:S_api_Tree→List G
 | ⟨f0,f1,f2⟩=>[.val (.int .i64 f0),.sl f1.length (fl (eI .u64) f1),.sl f2.length (Zch f2)]
def Zch:List S_api_Tree→List G
 | []=>[]
 | x::xs=>Zcg x++Zch xs
end
theorem Zpn:∀ xs,Zch xs=fl Zcg xs
 | []=>by simp [Zch,fl]
 | x::xs=>by rw [Zch,Gj,Zpn xs]
def Za (x:S_api_Tree):List G:=[.val (.int .i64 x.Kind),.sl x.Words.length (fl (eI .u64) x.Words),.sl x.Kids.length (fl Zcg x.Kids)]
theorem Z5:Zcg=Za:=by
 funext x
 obtain ⟨_,_,_⟩:=x
 simp only [Zcg,Zpn,Za,List.cons_append,List.nil_append,List.append_nil]
mutual
theorem Zms:∀ x,G.pures (Zcg x)=true
 | ⟨f0,f1,f2⟩=>by simp [Zcg,eP,Gk,eI,eB,eS,eL,G.pures,G.pure,Zec,Yh,Zqx f2]
theorem Zqx:∀ xs,G.pures (Zch xs)=true
 | []=>rfl
 | x::xs=>by simp [Zch,Zec,Zms x,Zqx xs]
end
theorem Zmt:∀ x,G.pures (Za x)=true:=fun x=>by rw [← Z5];exact Zms x
theorem Um:∀ x,G.pures ((eI .u64) x)=true:=fun x=>by simp [eI,eB,eS,eL,eP,G.pures,G.pure,Yh,Gk,Z5]
theorem Zfz {O O':Objs} {n:Nat} (xs:List Int):wkl O O' n (fl (eI .u64) xs) (fl (eI .u64) xs):=Zgp (Yh Um xs)
theorem Zfy {O O':Objs} {n:Nat} (xs:List Int) (b b':List G):wkl O O' n (fl (eI .u64) xs++b) (fl (eI .u64) xs++b')=wkl O O' n b b':=Zf1 b b' _ (Yh Um xs)
theorem Ze4 (xs:List Int):(fl (eI .u64) xs).length=xs.length * 1:=V2 (f:=(eI .u64)) (k:=1) (fun _=>rfl) xs
theorem Zff (xs:List Int):(fl (eI .u64) xs).all G.one=true:=Zbd (fun x=>by simp [eI,eB,eS,eL,eP,Zei,G.one,Value.oneCell']) xs
theorem Zf2 {O O':Objs} {n:Nat} (x:Option Int):wk O O' n (gP (eI .u64) x) (gP (eI .u64) x)=True:=Zua Um x
theorem Zdk {k:Nat} (x:Option Int):(gP (eI .u64) x).under k=true:=Zfw Um k x
theorem Zdg {ρ:Nat→Nat} (xs:List Int):G.rens ρ (fl (eI .u64) xs)=fl (eI .u64) xs:=U9 ρ _ (Yh Um xs)
theorem Zdf {ρ:Nat→Nat} (x:Option Int):(gP (eI .u64) x).ren ρ=gP (eI .u64) x:=Zd7 ρ _ (Gk Um x)
theorem Zfv {k:Nat} (xs:List Int):G.unders k (fl (eI .u64) xs)=true:=Qh _ _ (Yh Um xs)
theorem Xj:∀ x,G.pures (Za x)=true:=fun x=>by rw [← Z5];exact Zms x
theorem Uq {O O':Objs} {n:Nat} (xs:List S_api_Tree):wkl O O' n (fl Za xs) (fl Za xs):=Zgp (Yh Xj xs)
theorem Up {O O':Objs} {n:Nat} (xs:List S_api_Tree) (b b':List G):wkl O O' n (fl Za xs++b) (fl Za xs++b')=wkl O O' n b b':=Zf1 b b' _ (Yh Xj xs)
theorem Uf (xs:List S_api_Tree):(fl Za xs).length=xs.length * 3:=V2 (f:=Za) (k:=3) (fun _=>rfl) xs
theorem Ul (xs:List S_api_Tree):(fl Za xs).all G.one=true:=Zbd (fun x=>by simp [eI,eB,eS,eL,eP,Zei,G.one,Value.oneCell',Za]) xs
theorem Ur {O O':Objs} {n:Nat} (x:Option S_api_Tree):wk O O' n (gP Za x) (gP Za x)=True:=Zua Xj x
theorem Vx {k:Nat} (x:Option S_api_Tree):(gP Za x).under k=true:=Zfw Xj k x
theorem Vw {ρ:Nat→Nat} (xs:List S_api_Tree):G.rens ρ (fl Za xs)=fl Za xs:=U9 ρ _ (Yh Xj xs)
theorem Vv {ρ:Nat→Nat} (x:Option S_api_Tree):(gP Za x).ren ρ=gP Za x:=Zd7 ρ _ (Gk Xj x)
theorem Uo {k:Nat} (xs:List S_api_Tree):G.unders k (fl Za xs)=true:=Qh _ _ (Yh Xj xs)
def Zb (x:Zf):List G:=[.val (.int .i64 x.At),.val (.int .u8 x.Mask),.val (.int .u64 x.Old),.val (.int .u64 x.New)]
mutual
def Uw:S_api_Edit→List G
 | ⟨f0,f1,f2,f3,f4,f5,f6⟩=>[.val (.int .i64 f0),.val (.int .i64 f1.Kind),.sl f1.Words.length (fl (eI .u64) f1.Words),.sl f1.Kids.length (fl Za f1.Kids),.val (.int .i64 f2.Kind),.sl f2.Words.length (fl (eI .u64) f2.Words),.sl f2.Kids.length (fl Za f2.Kids),.sl f3.length (fl Zb f3),.sl f4.length (Gu f4),.val (.int .i64 f5),.sl f6.length (Zey f6)]
def Zd8:List S_api_Edit→List G
 | []=>[]
 | x::xs=>Uw x++Zd8 xs
def Zac:S_api_Op→List G
 | ⟨f0,f1,f2,f3⟩=>[.val (.int .i64 f0),.val (.int .i64 f1),.sl f2.length (fl Za f2)]++Uw f3
def Zey:List S_api_Op→List G
 | []=>[]
 | x::xs=>Zac x++Zey xs
def Ja:S_api_KidEdit→List G
 | ⟨f0,f1⟩=>[.val (.int .i64 f0)]++Uw f1
def Gu:List S_api_KidEdit→List G
 | []=>[]
 | x::xs=>Ja x++Gu xs
end
theorem Zf5:∀ xs,Zd8 xs=fl Uw xs
 | []=>by simp [Zd8,fl]
 | x::xs=>by rw [Zd8,Gj,Zf5 xs]
theorem Zib:∀ xs,Zey xs=fl Zac xs
 | []=>by simp [Zey,fl]
 | x::xs=>by rw [Zey,Gj,Zib xs]
theorem Zck:∀ xs,Gu xs=fl Ja xs
 | []=>by simp [Gu,fl]
 | x::xs=>by rw [Gu,Gj,Zck xs]
def Xp (x:S_api_Edit):List G:=[.val (.int .i64 x.Kind),.val (.int .i64 x.Old.Kind),.sl x.Old.Words.length (fl (eI .u64) x.Old.Words),.sl x.Old.Kids.length (fl Za x.Old.Kids),.val (.int .i64 x.New.Kind),.sl x.New.Words.length (fl (eI .u64) x.New.Words),.sl x.New.Kids.length (fl Za x.New.Kids),.sl x.Words.length (fl Zb x.Words),.sl x.Kids.length (fl Ja x.Kids),.val (.int .i64 x.List_),.sl x.Ops.length (fl Zac x.Ops)]
def Zc (x:S_api_Op):List G:=[.val (.int .i64 x.Kind),.val (.int .i64 x.N),.sl x.L.length (fl Za x.L),.val (.int .i64 x.E.Kind),.val (.int .i64 x.E.Old.Kind),.sl x.E.Old.Words.length (fl (eI .u64) x.E.Old.Words),.sl x.E.Old.Kids.length (fl Za x.E.Old.Kids),.val (.int .i64 x.E.New.Kind),.sl x.E.New.Words.length (fl (eI .u64) x.E.New.Words),.sl x.E.New.Kids.length (fl Za x.E.New.Kids),.sl x.E.Words.length (fl Zb x.E.Words),.sl x.E.Kids.length (fl Ja x.E.Kids),.val (.int .i64 x.E.List_),.sl x.E.Ops.length (fl Zac x.E.Ops)]
def Zd (x:S_api_KidEdit):List G:=[.val (.int .i64 x.At),.val (.int .i64 x.E.Kind),.val (.int .i64 x.E.Old.Kind),.sl x.E.Old.Words.length (fl (eI .u64) x.E.Old.Words),.sl x.E.Old.Kids.length (fl Za x.E.Old.Kids),.val (.int .i64 x.E.New.Kind),.sl x.E.New.Words.length (fl (eI .u64) x.E.New.Words),.sl x.E.New.Kids.length (fl Za x.E.New.Kids),.sl x.E.Words.length (fl Zb x.E.Words),.sl x.E.Kids.length (fl Ja x.E.Kids),.val (.int .i64 x.E.List_),.sl x.E.Ops.length (fl Zac x.E.Ops)]
theorem Yz:Uw=Xp:=by
 funext x
 obtain ⟨_,_,_,_,_,_,_⟩:=x
 simp only [Uw,Zf5,Zac,Zib,Ja,Zck,Xp,List.cons_append,List.nil_append,List.append_nil]
theorem Y4:Zac=Zc:=by
 funext x
 obtain ⟨_,_,_,⟨_,_,_,_,_,_,_⟩⟩:=x
 simp only [Uw,Zf5,Zac,Zib,Ja,Zck,Zc,List.cons_append,List.nil_append,List.append_nil]
theorem Z9:Ja=Zd:=by
 funext x
 obtain ⟨_,⟨_,_,_,_,_,_,_⟩⟩:=x
 simp only [Uw,Zf5,Zac,Zib,Ja,Zck,Zd,List.cons_append,List.nil_append,List.append_nil]
mutual
theorem Zmr:∀ x,G.pures (Uw x)=true
 | ⟨f0,f1,f2,f3,f4,f5,f6⟩=>by simp [Uw,eP,Gk,eI,eB,eS,eL,G.pures,G.pure,Zec,Yh,Zmu f4,Zt7 f6,Um,Xj,Zmt,Zb]
theorem Zyr:∀ xs,G.pures (Zd8 xs)=true
 | []=>rfl
 | x::xs=>by simp [Zd8,Zec,Zmr x,Zyr xs]
theorem Zvz:∀ x,G.pures (Zac x)=true
 | ⟨f0,f1,f2,f3⟩=>by simp [Zac,eP,Gk,eI,eB,eS,eL,G.pures,G.pure,Zec,Yh,Zmr f3,Um,Xj,Zmt,Zb]
theorem Zt7:∀ xs,G.pures (Zey xs)=true
 | []=>rfl
 | x::xs=>by simp [Zey,Zec,Zvz x,Zt7 xs]
theorem Zoe:∀ x,G.pures (Ja x)=true
 | ⟨f0,f1⟩=>by simp [Ja,eP,Gk,eI,eB,eS,eL,G.pures,G.pure,Zec,Yh,Zmr f1,Um,Xj,Zmt,Zb]
theorem Zmu:∀ xs,G.pures (Gu xs)=true
 | []=>rfl
 | x::xs=>by simp [Gu,Zec,Zoe x,Zmu xs]
end
theorem Xg:∀ x,G.pures (Zb x)=true:=fun x=>by simp [eI,eB,eS,eL,eP,G.pures,G.pure,Yh,Gk,Zb,Um,Xj,Z5,Yz,Y4,Z9]
theorem J8 {O O':Objs} {n:Nat} (xs:List Zf):wkl O O' n (fl Zb xs) (fl Zb xs):=Zgp (Yh Xg xs)
theorem J5 {O O':Objs} {n:Nat} (xs:List Zf) (b b':List G):wkl O O' n (fl Zb xs++b) (fl Zb xs++b')=wkl O O' n b b':=Zf1 b b' _ (Yh Xg xs)
theorem Jm (xs:List Zf):(fl Zb xs).length=xs.length * 4:=V2 (f:=Zb) (k:=4) (fun _=>rfl) xs
theorem Jq (xs:List Zf):(fl Zb xs).all G.one=true:=Zbd (fun x=>by simp [eI,eB,eS,eL,eP,Zei,G.one,Value.oneCell',Zb]) xs
theorem Kb {O O':Objs} {n:Nat} (x:Option Zf):wk O O' n (gP Zb x) (gP Zb x)=True:=Zua Xg x
theorem Q2 {k:Nat} (x:Option Zf):(gP Zb x).under k=true:=Zfw Xg k x
theorem Qy {ρ:Nat→Nat} (xs:List Zf):G.rens ρ (fl Zb xs)=fl Zb xs:=U9 ρ _ (Yh Xg xs)
theorem Qv {ρ:Nat→Nat} (x:Option Zf):(gP Zb x).ren ρ=gP Zb x:=Zd7 ρ _ (Gk Xg x)
theorem Jy {k:Nat} (xs:List Zf):G.unders k (fl Zb xs)=true:=Qh _ _ (Yh Xg xs)
theorem Xv:∀ x,G.pures (Zd x)=true:=fun x=>by rw [← Z9];exact Zoe x
theorem Kv {O O':Objs} {n:Nat} (xs:List S_api_KidEdit):wkl O O' n (fl Zd xs) (fl Zd xs):=Zgp (Yh Xv xs)
theorem Kt {O O':Objs} {n:Nat} (xs:List S_api_KidEdit) (b b':List G):wkl O O' n (fl Zd xs++b) (fl Zd xs++b')=wkl O O' n b b':=Zf1 b b' _ (Yh Xv xs)
theorem Kk (xs:List S_api_KidEdit):(fl Zd xs).length=xs.length * 12:=V2 (f:=Zd) (k:=12) (fun _=>rfl) xs
theorem Ko (xs:List S_api_KidEdit):(fl Zd xs).all G.one=true:=Zbd (fun x=>by simp [eI,eB,eS,eL,eP,Zei,G.one,Value.oneCell',Zd]) xs
theorem Kx {O O':Objs} {n:Nat} (x:Option S_api_KidEdit):wk O O' n (gP Zd x) (gP Zd x)=True:=Zua Xv x
theorem J3 {k:Nat} (x:Option S_api_KidEdit):(gP Zd x).under k=true:=Zfw Xv k x
theorem Jw {ρ:Nat→Nat} (xs:List S_api_KidEdit):G.rens ρ (fl Zd xs)=fl Zd xs:=U9 ρ _ (Yh Xv xs)
theorem Ju {ρ:Nat→Nat} (x:Option S_api_KidEdit):(gP Zd x).ren ρ=gP Zd x:=Zd7 ρ _ (Gk Xv x)
theorem Kr {k:Nat} (xs:List S_api_KidEdit):G.unders k (fl Zd xs)=true:=Qh _ _ (Yh Xv xs)
theorem Vg:∀ x,G.pures (Zc x)=true:=fun x=>by rw [← Y4];exact Zvz x
theorem Zak {O O':Objs} {n:Nat} (xs:List S_api_Op):wkl O O' n (fl Zc xs) (fl Zc xs):=Zgp (Yh Vg xs)
theorem Zaj {O O':Objs} {n:Nat} (xs:List S_api_Op) (b b':List G):wkl O O' n (fl Zc xs++b) (fl Zc xs++b')=wkl O O' n b b':=Zf1 b b' _ (Yh Vg xs)
theorem Zad (xs:List S_api_Op):(fl Zc xs).length=xs.length * 14:=V2 (f:=Zc) (k:=14) (fun _=>rfl) xs
theorem Zah (xs:List S_api_Op):(fl Zc xs).all G.one=true:=Zbd (fun x=>by simp [eI,eB,eS,eL,eP,Zei,G.one,Value.oneCell',Zc]) xs
theorem Zal {O O':Objs} {n:Nat} (x:Option S_api_Op):wk O O' n (gP Zc x) (gP Zc x)=True:=Zua Vg x
theorem Gg {k:Nat} (x:Option S_api_Op):(gP Zc x).under k=true:=Zfw Vg k x
theorem Gf {ρ:Nat→Nat} (xs:List S_api_Op):G.rens ρ (fl Zc xs)=fl Zc xs:=U9 ρ _ (Yh Vg xs)
theorem Ge {ρ:Nat→Nat} (x:Option S_api_Op):(gP Zc x).ren ρ=gP Zc x:=Zd7 ρ _ (Gk Vg x)
theorem Zai {k:Nat} (xs:List S_api_Op):G.unders k (fl Zc xs)=true:=Qh _ _ (Yh Vg xs)
theorem Zfm:∀ x,G.pures ((eI .u8) x)=true:=fun x=>by simp [eI,eB,eS,eL,eP,G.pures,G.pure,Yh,Gk,Um,Xj,Xg,Xv,Vg,Z5,Yz,Y4,Z9]
theorem Zh4 {O O':Objs} {n:Nat} (xs:List Int):wkl O O' n (fl (eI .u8) xs) (fl (eI .u8) xs):=Zgp (Yh Zfm xs)
theorem Zh3 {O O':Objs} {n:Nat} (xs:List Int) (b b':List G):wkl O O' n (fl (eI .u8) xs++b) (fl (eI .u8) xs++b')=wkl O O' n b b':=Zf1 b b' _ (Yh Zfm xs)
theorem Zhk (xs:List Int):(fl (eI .u8) xs).length=xs.length * 1:=V2 (f:=(eI .u8)) (k:=1) (fun _=>rfl) xs
theorem Zho (xs:List Int):(fl (eI .u8) xs).all G.one=true:=Zbd (fun x=>by simp [eI,eB,eS,eL,eP,Zei,G.one,Value.oneCell']) xs
theorem Zh5 {O O':Objs} {n:Nat} (x:Option Int):wk O O' n (gP (eI .u8) x) (gP (eI .u8) x)=True:=Zua Zfm x
theorem Zfx {k:Nat} (x:Option Int):(gP (eI .u8) x).under k=true:=Zfw Zfm k x
theorem Zfq {ρ:Nat→Nat} (xs:List Int):G.rens ρ (fl (eI .u8) xs)=fl (eI .u8) xs:=U9 ρ _ (Yh Zfm xs)
theorem Zfp {ρ:Nat→Nat} (x:Option Int):(gP (eI .u8) x).ren ρ=gP (eI .u8) x:=Zd7 ρ _ (Gk Zfm x)
theorem Zh2 {k:Nat} (xs:List Int):G.unders k (fl (eI .u8) xs)=true:=Qh _ _ (Yh Zfm xs)
def Z4 (x:Zs):List G:=[.sl x.out.length (fl Zc x.out),.val (.int .i64 x.kept),.sl x.gone.length (fl Za x.gone),.sl x.come.length (fl Za x.come)]
theorem Xz:∀ x,G.pures (Z4 x)=true:=fun x=>by simp [eI,eB,eS,eL,eP,G.pures,G.pure,Yh,Gk,Z4,Um,Xj,Xg,Xv,Vg,Zfm,Z5,Yz,Y4,Z9]
theorem Q5 {O O':Objs} {n:Nat} (xs:List Zs):wkl O O' n (fl Z4 xs) (fl Z4 xs):=Zgp (Yh Xz xs)
theorem Q4 {O O':Objs} {n:Nat} (xs:List Zs) (b b':List G):wkl O O' n (fl Z4 xs++b) (fl Z4 xs++b')=wkl O O' n b b':=Zf1 b b' _ (Yh Xz xs)
theorem Qr (xs:List Zs):(fl Z4 xs).length=xs.length * 4:=V2 (f:=Z4) (k:=4) (fun _=>rfl) xs
theorem Qt (xs:List Zs):(fl Z4 xs).all G.one=true:=Zbd (fun x=>by simp [eI,eB,eS,eL,eP,Zei,G.one,Value.oneCell',Z4]) xs
theorem Q6 {O O':Objs} {n:Nat} (x:Option Zs):wk O O' n (gP Z4 x) (gP Z4 x)=True:=Zua Xz x
theorem Ql {k:Nat} (x:Option Zs):(gP Z4 x).under k=true:=Zfw Xz k x
theorem Qk {ρ:Nat→Nat} (xs:List Zs):G.rens ρ (fl Z4 xs)=fl Z4 xs:=U9 ρ _ (Yh Xz xs)
theorem Qj {ρ:Nat→Nat} (x:Option Zs):(gP Z4 x).ren ρ=gP Z4 x:=Zd7 ρ _ (Gk Xz x)
theorem Q0 {k:Nat} (xs:List Zs):G.unders k (fl Z4 xs)=true:=Qh _ _ (Yh Xz xs)
def Z7 (x:Zg):List G:=[.sl x.left.length (fl Za x.left),.sl x.out.length (fl Za x.out)]
theorem Q7:∀ x,G.pures (Z7 x)=true:=fun x=>by simp [eI,eB,eS,eL,eP,G.pures,G.pure,Yh,Gk,Z7,Um,Xj,Xg,Xv,Vg,Zfm,Xz,Z5,Yz,Y4,Z9]
theorem J9 {O O':Objs} {n:Nat} (xs:List Zg):wkl O O' n (fl Z7 xs) (fl Z7 xs):=Zgp (Yh Q7 xs)
theorem J6 {O O':Objs} {n:Nat} (xs:List Zg) (b b':List G):wkl O O' n (fl Z7 xs++b) (fl Z7 xs++b')=wkl O O' n b b':=Zf1 b b' _ (Yh Q7 xs)
theorem Jn (xs:List Zg):(fl Z7 xs).length=xs.length * 2:=V2 (f:=Z7) (k:=2) (fun _=>rfl) xs
theorem Jr (xs:List Zg):(fl Z7 xs).all G.one=true:=Zbd (fun x=>by simp [eI,eB,eS,eL,eP,Zei,G.one,Value.oneCell',Z7]) xs
theorem Kc {O O':Objs} {n:Nat} (x:Option Zg):wk O O' n (gP Z7 x) (gP Z7 x)=True:=Zua Q7 x
theorem Q3 {k:Nat} (x:Option Zg):(gP Z7 x).under k=true:=Zfw Q7 k x
theorem Qz {ρ:Nat→Nat} (xs:List Zg):G.rens ρ (fl Z7 xs)=fl Z7 xs:=U9 ρ _ (Yh Q7 xs)
theorem Qw {ρ:Nat→Nat} (x:Option Zg):(gP Z7 x).ren ρ=gP Z7 x:=Zd7 ρ _ (Gk Q7 x)
theorem Jz {k:Nat} (xs:List Zg):G.unders k (fl Z7 xs)=true:=Qh _ _ (Yh Q7 xs)
def Z6 (x:Y0):List G:=[.sl x.left.length (fl Zc x.left),.val (.int .i64 x.gone)]
theorem Kp:∀ x,G.pures (Z6 x)=true:=fun x=>by simp [eI,eB,eS,eL,eP,G.pures,G.pure,Yh,Gk,Z6,Um,Xj,Xg,Xv,Vg,Zfm,Xz,Q7,Z5,Yz,Y4,Z9]
theorem J7 {O O':Objs} {n:Nat} (xs:List Y0):wkl O O' n (fl Z6 xs) (fl Z6 xs):=Zgp (Yh Kp xs)
theorem J4 {O O':Objs} {n:Nat} (xs:List Y0) (b b':List G):wkl O O' n (fl Z6 xs++b) (fl Z6 xs++b')=wkl O O' n b b':=Zf1 b b' _ (Yh Kp xs)
theorem Jl (xs:List Y0):(fl Z6 xs).length=xs.length * 2:=V2 (f:=Z6) (k:=2) (fun _=>rfl) xs
theorem Jp (xs:List Y0):(fl Z6 xs).all G.one=true:=Zbd (fun x=>by simp [eI,eB,eS,eL,eP,Zei,G.one,Value.oneCell',Z6]) xs
theorem Ka {O O':Objs} {n:Nat} (x:Option Y0):wk O O' n (gP Z6 x) (gP Z6 x)=True:=Zua Kp x
theorem Q1 {k:Nat} (x:Option Y0):(gP Z6 x).under k=true:=Zfw Kp k x
theorem Qx {ρ:Nat→Nat} (xs:List Y0):G.rens ρ (fl Z6 xs)=fl Z6 xs:=U9 ρ _ (Yh Kp xs)
theorem Qu {ρ:Nat→Nat} (x:Option Y0):(gP Z6 x).ren ρ=gP Z6 x:=Zd7 ρ _ (Gk Kp x)
theorem Jx {k:Nat} (xs:List Y0):G.unders k (fl Z6 xs)=true:=Qh _ _ (Yh Kp xs)
def Zw (x:Zr):List G:=[.val (.int .i64 x.Of),.val (.int .i64 x.P.Kind),.val (.int .i64 x.P.N),.sl x.P.L.length (fl Za x.P.L),.val (.int .i64 x.P.E.Kind),.val (.int .i64 x.P.E.Old.Kind),.sl x.P.E.Old.Words.length (fl (eI .u64) x.P.E.Old.Words),.sl x.P.E.Old.Kids.length (fl Za x.P.E.Old.Kids),.val (.int .i64 x.P.E.New.Kind),.sl x.P.E.New.Words.length (fl (eI .u64) x.P.E.New.Words),.sl x.P.E.New.Kids.length (fl Za x.P.E.New.Kids),.sl x.P.E.Words.length (fl Zb x.P.E.Words),.sl x.P.E.Kids.length (fl Zd x.P.E.Kids),.val (.int .i64 x.P.E.List_),.sl x.P.E.Ops.length (fl Zc x.P.E.Ops),.val (.int .i64 x.Q.Kind),.val (.int .i64 x.Q.N),.sl x.Q.L.length (fl Za x.Q.L),.val (.int .i64 x.Q.E.Kind),.val (.int .i64 x.Q.E.Old.Kind),.sl x.Q.E.Old.Words.length (fl (eI .u64) x.Q.E.Old.Words),.sl x.Q.E.Old.Kids.length (fl Za x.Q.E.Old.Kids),.val (.int .i64 x.Q.E.New.Kind),.sl x.Q.E.New.Words.length (fl (eI .u64) x.Q.E.New.Words),.sl x.Q.E.New.Kids.length (fl Za x.Q.E.New.Kids),.sl x.Q.E.Words.length (fl Zb x.Q.E.Words),.sl x.Q.E.Kids.length (fl Zd x.Q.E.Kids),.val (.int .i64 x.Q.E.List_),.sl x.Q.E.Ops.length (fl Zc x.Q.E.Ops)]
theorem Ue:∀ x,G.pures (Zw x)=true:=fun x=>by simp [eI,eB,eS,eL,eP,G.pures,G.pure,Yh,Gk,Zw,Um,Xj,Xg,Xv,Vg,Zfm,Xz,Q7,Kp,Z5,Yz,Y4,Z9]
theorem Ku {O O':Objs} {n:Nat} (xs:List Zr):wkl O O' n (fl Zw xs) (fl Zw xs):=Zgp (Yh Ue xs)
theorem Ks {O O':Objs} {n:Nat} (xs:List Zr) (b b':List G):wkl O O' n (fl Zw xs++b) (fl Zw xs++b')=wkl O O' n b b':=Zf1 b b' _ (Yh Ue xs)
theorem Kj (xs:List Zr):(fl Zw xs).length=xs.length * 29:=V2 (f:=Zw) (k:=29) (fun _=>rfl) xs
theorem Km (xs:List Zr):(fl Zw xs).all G.one=true:=Zbd (fun x=>by simp [eI,eB,eS,eL,eP,Zei,G.one,Value.oneCell',Zw]) xs
theorem Kw {O O':Objs} {n:Nat} (x:Option Zr):wk O O' n (gP Zw x) (gP Zw x)=True:=Zua Ue x
theorem J0 {k:Nat} (x:Option Zr):(gP Zw x).under k=true:=Zfw Ue k x
theorem Jv {ρ:Nat→Nat} (xs:List Zr):G.rens ρ (fl Zw xs)=fl Zw xs:=U9 ρ _ (Yh Ue xs)
theorem Jt {ρ:Nat→Nat} (x:Option Zr):(gP Zw x).ren ρ=gP Zw x:=Zd7 ρ _ (Gk Ue x)
theorem Kq {k:Nat} (xs:List Zr):G.unders k (fl Zw xs)=true:=Qh _ _ (Yh Ue xs)
def X8 (x:Zr):List G:=[.val (.int .i64 x.Of),.val (.int .i64 x.P.Kind),.val (.int .i64 x.P.N),.sl x.P.L.length (fl Za x.P.L),.val (.int .i64 x.P.E.Kind),.val (.int .i64 x.P.E.Old.Kind),.sl x.P.E.Old.Words.length (fl (eI .u64) x.P.E.Old.Words),.sl x.P.E.Old.Kids.length (fl Za x.P.E.Old.Kids),.val (.int .i64 x.P.E.New.Kind),.sl x.P.E.New.Words.length (fl (eI .u64) x.P.E.New.Words),.sl x.P.E.New.Kids.length (fl Za x.P.E.New.Kids),.sl x.P.E.Words.length (fl Zb x.P.E.Words),.sl x.P.E.Kids.length (fl Zd x.P.E.Kids),.val (.int .i64 x.P.E.List_),.sl x.P.E.Ops.length (fl Zc x.P.E.Ops),.val (.int .i64 x.Q.Kind),.val (.int .i64 x.Q.N),.sl x.Q.L.length (fl Za x.Q.L),.val (.int .i64 x.Q.E.Kind),.val (.int .i64 x.Q.E.Old.Kind),.sl x.Q.E.Old.Words.length (fl (eI .u64) x.Q.E.Old.Words),.sl x.Q.E.Old.Kids.length (fl Za x.Q.E.Old.Kids),.val (.int .i64 x.Q.E.New.Kind),.sl x.Q.E.New.Words.length (fl (eI .u64) x.Q.E.New.Words),.sl x.Q.E.New.Kids.length (fl Za x.Q.E.New.Kids),.sl x.Q.E.Words.length (fl Zb x.Q.E.Words),.sl x.Q.E.Kids.length (fl Zd x.Q.E.Kids),.val (.int .i64 x.Q.E.List_),.sl x.Q.E.Ops.length (fl Zc x.Q.E.Ops)]
def Yw (x:S_api_Op):List G:=[.val (.int .i64 x.Kind),.val (.int .i64 x.N),.sl x.L.length (fl Za x.L),.val (.int .i64 x.E.Kind),.val (.int .i64 x.E.Old.Kind),.sl x.E.Old.Words.length (fl (eI .u64) x.E.Old.Words),.sl x.E.Old.Kids.length (fl Za x.E.Old.Kids),.val (.int .i64 x.E.New.Kind),.sl x.E.New.Words.length (fl (eI .u64) x.E.New.Words),.sl x.E.New.Kids.length (fl Za x.E.New.Kids),.sl x.E.Words.length (fl Zb x.E.Words),.sl x.E.Kids.length (fl Zd x.E.Kids),.val (.int .i64 x.E.List_),.sl x.E.Ops.length (fl Zc x.E.Ops)]
def Y5 (x:S_api_KidEdit):List G:=[.val (.int .i64 x.At),.val (.int .i64 x.E.Kind),.val (.int .i64 x.E.Old.Kind),.sl x.E.Old.Words.length (fl (eI .u64) x.E.Old.Words),.sl x.E.Old.Kids.length (fl Za x.E.Old.Kids),.val (.int .i64 x.E.New.Kind),.sl x.E.New.Words.length (fl (eI .u64) x.E.New.Words),.sl x.E.New.Kids.length (fl Za x.E.New.Kids),.sl x.E.Words.length (fl Zb x.E.Words),.sl x.E.Kids.length (fl Zd x.E.Kids),.val (.int .i64 x.E.List_),.sl x.E.Ops.length (fl Zc x.E.Ops)]
def Ze (x:S_api_Edit):List G:=[.val (.int .i64 x.Kind),.val (.int .i64 x.Old.Kind),.sl x.Old.Words.length (fl (eI .u64) x.Old.Words),.sl x.Old.Kids.length (fl Za x.Old.Kids),.val (.int .i64 x.New.Kind),.sl x.New.Words.length (fl (eI .u64) x.New.Words),.sl x.New.Kids.length (fl Za x.New.Kids),.sl x.Words.length (fl Zb x.Words),.sl x.Kids.length (fl Zd x.Kids),.val (.int .i64 x.List_),.sl x.Ops.length (fl Zc x.Ops)]
def Zi (x:S_api_Tree):List G:=[.val (.int .i64 x.Kind),.sl x.Words.length (fl (eI .u64) x.Words),.sl x.Kids.length (fl Za x.Kids)]
def Xb (x:Zf):List G:=[.val (.int .i64 x.At),.val (.int .u8 x.Mask),.val (.int .u64 x.Old),.val (.int .u64 x.New)]
theorem zFn {f:FuncId} {gs:List G} {O O2:Objs} {n n2:Nat} {r:G} {fn:Func} {c:Code} (hc:∀ args w,(callFunc f args).run Try.prog w = .ok (.enter f args) w) (hf:Try.prog.funcs[f]? = some fn) (h:Und O n→O n=none→(∀ k,O (n+k)=none)→W Try.prog n c (Fin Vm fn.results.toList r n O2 n2) ⟨fn.ntmps,[],Zf7 0 gs⟩ (Zu O n []) n) (hb:fn.body=some c:=by exact rfl) (hn:gs.length≤fn.ntmps:=by exact Nat.le_of_ble_eq_true rfl) (h2:n≤n2:=by first | exact Nat.le_refl _ | omega):GTo Try.prog f gs O n r O2 n2:=Zqs Zz hc hf hb hn h2 fun hU=>h hU (hU.fresh _ (Nat.le_refl _)) fun k=>hU.fresh _ (Nat.le_add_right _ _)
structure Hid (p:Prop):Prop where
 get:p
structure Ar {α:Type} (a:α):Prop where
def Ar.v {α:Type} {a:α} (_:Ar a):α:=a
theorem zQ {A B:Prop} (l0:List Nat) (b:B) (e:Ar l0→Hid B→A:=by intro x0 bZ;refine Zuc x0.v (Xa Zz [] ?_);simp only [push_cast,seval,↓reduceIte,Zk,Ar.v,hN0,hN];exact bZ.get):A:=e ⟨⟩ ⟨b⟩
theorem zQD {A B:Prop} (l0:List Nat) (l1:List (Option Bool)) (b:B) (e:Ar l0→Ar l1→Hid B→A:=by intro x0 x1 bZ;refine Zuc x0.v (Xa Zz x1.v ?_);simp only [push_cast,seval,↓reduceIte,Zk,Ar.v,hN0,hN];(repeat (with_reducible refine And.intro (by first | (intro h0;simp only [h0,and_self];done) | (intro h0;simp only [h0,Bool.not_false,Bool.not_true,Bool.true_and,Bool.and_true,true_and,and_true,and_self,imp_self,implies_true,bne_iff_ne,ne_eq,beq_iff_eq];done) | (intros;simp_all;done) | exact True.intro) ?_));exact bZ.get):A:=e ⟨⟩ ⟨⟩ ⟨b⟩
theorem Xe {A:Prop} (l0:List G) (e:Ar l0→A:=by intro x0;refine Ydc ?_;(try simp only [Xf,Yn]);have h:=Option.some.inj h;subst h;refine Z2i (.inr rfl) hU x0.v (by omega) ?_;simp only [push_cast,seval,↓reduceIte,Zk,Ar.v,hN0,hN]):A:=e ⟨⟩
theorem zKd {A B:Prop} (l0:List Nat) (l1:List Bool) (b:B) (e:Ar l0→Ar l1→Hid B→A:=by intro x0 x1 bZ;refine Z89 ?_;(try simp only [Xf,Yn]);refine Zwa x0.v x1.v ?_;simp only [push_cast,seval,↓reduceIte,Ar.v];exact bZ.get):A:=e ⟨⟩ ⟨⟩ ⟨b⟩
theorem zQd {A B:Prop} (l0:List Nat) (l1:List Nat) (l2:List Bool) (b:B) (e:Ar l0→Ar l1→Ar l2→Hid B→A:=by intro x0 x1 x2 bZ;refine Zuc x0.v (Xa Zz [] ?_);simp only [push_cast,seval,↓reduceIte,Zk,Ar.v,hN0,hN];refine Zwa x1.v x2.v ?_;simp only [push_cast,seval,↓reduceIte,Ar.v];exact bZ.get):A:=e ⟨⟩ ⟨⟩ ⟨⟩ ⟨b⟩
theorem Ziu {A B:Prop} (l0:List (Option Bool)) {P1:Prop} (p1:P1) {P2:Prop} (p2:P2) {P3:Prop} (p3:P3) (b:B) (e:Ar l0→P1→P2→P3→Hid B→A:=by intro x0 x1 x2 x3 bZ;refine Xa Zz x0.v ?_;simp only [push_cast,Nat.reduceAdd,Nat.reduceSub,Nat.reduceMul,Nat.reduceLeDiff,Nat.reduceLT,Nat.reduceEqDiff,↓reduceIte,reduceCtorEq,Int.reduceBEq,Int.reduceBNe,Nat.reduceBEq,Int.reduceLE,Int.reduceLT,Int.reduceEq,Int.reduceNe,Int.reduceNeg,Nat.reduceDiv,Nat.reduceMod,Nat.reducePow,Zk,Ar.v,x1,x2,x3,hN0,hN];exact bZ.get):A:=e ⟨⟩ p1 p2 p3 ⟨b⟩
theorem zF3 {A B:Prop} {P0:Prop} (p0:P0) {P1:Prop} (p1:P1) {P2:Prop} (p2:P2) (b:B) (e:P0→P1→P2→Hid B→A:=by intro x0 x1 x2 bZ;simp only [push_cast,Nat.reduceAdd,Nat.reduceSub,Nat.reduceMul,Nat.reduceLeDiff,Nat.reduceLT,Nat.reduceEqDiff,↓reduceIte,reduceCtorEq,Int.reduceBEq,Int.reduceBNe,Nat.reduceBEq,Int.reduceLE,Int.reduceLT,Int.reduceEq,Int.reduceNe,Int.reduceNeg,Nat.reduceDiv,Nat.reduceMod,Nat.reducePow,Zk,x0,x1,x2,hN0,hN];exact bZ.get):A:=e p0 p1 p2 ⟨b⟩
theorem zD {A B:Prop} (l0:List Nat) (l1:List Bool) (b:B) (e:Ar l0→Ar l1→Hid B→A:=by intro x0 x1 bZ;refine Zwa x0.v x1.v ?_;simp only [push_cast,seval,↓reduceIte,Ar.v];exact bZ.get):A:=e ⟨⟩ ⟨⟩ ⟨b⟩
theorem zR {A B:Prop} (b:B) (e:Hid B→A:=by intro bZ;refine Xa Zz [] ?_;simp only [push_cast,seval,↓reduceIte,Zk,hN0,hN];exact bZ.get):A:=e ⟨b⟩
theorem zEn {A:Prop} {P0:Prop} (p0:P0) (e:P0→A:=by intro x0;have h9:=Option.some.inj x0;subst h9;refine And.intro rfl (Fit2.of (Yj hU rfl rfl ?_) (by omega));simp only [push_cast,seval,↓reduceIte,Zk,hN0,hN]):A:=e p0
theorem zEx {A:Prop} {P0:Prop} (p0:P0) (e:P0→A:=by intro x0;refine Z88 ?_;(try simp only [Xf,Yn,↓reduceIte,Nat.reduceEqDiff]);have h9:=Option.some.inj x0;subst h9;refine And.intro (fun h=>by cases h) (And.intro rfl (Fit2.of (Yj hU rfl rfl ?_) (by omega)));simp only [push_cast,seval,↓reduceIte,Zk,hN0,hN]):A:=e p0
theorem zCd {A B:Prop} {P0:Prop} (p0:P0) (l1:List Nat) (l2:List Bool) (b:B) (e:P0→Ar l1→Ar l2→Hid B→A:=by intro x0 x1 x2 bZ;refine Xa Zz [] ?_;simp only [push_cast,seval,↓reduceIte,Zk,hN0,hN];refine x0.then ?_;simp only [push_cast,seval,↓reduceIte,Zk,hN0,hN];refine Zwa x1.v x2.v ?_;simp only [push_cast,seval,↓reduceIte,Ar.v];exact bZ.get):A:=e p0 ⟨⟩ ⟨⟩ ⟨b⟩
theorem zC {A B:Prop} {P0:Prop} (p0:P0) (b:B) (e:P0→Hid B→A:=by intro x0 bZ;refine Xa Zz [] ?_;simp only [push_cast,seval,↓reduceIte,Zk,hN0,hN];refine x0.then ?_;simp only [push_cast,seval,↓reduceIte,Zk,hN0,hN];exact bZ.get):A:=e p0 ⟨b⟩
theorem zK {A B:Prop} (b:B) (e:Hid B→A:=by intro bZ;refine Z89 ?_;(try simp only [Xf,Yn]);exact bZ.get):A:=e ⟨b⟩
theorem Z2a {A B:Prop} (l0:List (Option Bool)) {P1:Prop} (p1:P1) {P2:Prop} (p2:P2) {P3:Prop} (p3:P3) {P4:Prop} (p4:P4) (b:B) (e:Ar l0→P1→P2→P3→P4→Hid B→A:=by intro x0 x1 x2 x3 x4 bZ;refine Xa Zz x0.v ?_;simp only [push_cast,Nat.reduceAdd,Nat.reduceSub,Nat.reduceMul,Nat.reduceLeDiff,Nat.reduceLT,Nat.reduceEqDiff,↓reduceIte,reduceCtorEq,Int.reduceBEq,Int.reduceBNe,Nat.reduceBEq,Int.reduceLE,Int.reduceLT,Int.reduceEq,Int.reduceNe,Int.reduceNeg,Nat.reduceDiv,Nat.reduceMod,Nat.reducePow,Zk,Ar.v,x1,x2,x3,x4,hN0,hN];exact bZ.get):A:=e ⟨⟩ p1 p2 p3 p4 ⟨b⟩
theorem zF4 {A B:Prop} {P0:Prop} (p0:P0) {P1:Prop} (p1:P1) {P2:Prop} (p2:P2) {P3:Prop} (p3:P3) (b:B) (e:P0→P1→P2→P3→Hid B→A:=by intro x0 x1 x2 x3 bZ;simp only [push_cast,Nat.reduceAdd,Nat.reduceSub,Nat.reduceMul,Nat.reduceLeDiff,Nat.reduceLT,Nat.reduceEqDiff,↓reduceIte,reduceCtorEq,Int.reduceBEq,Int.reduceBNe,Nat.reduceBEq,Int.reduceLE,Int.reduceLT,Int.reduceEq,Int.reduceNe,Int.reduceNeg,Nat.reduceDiv,Nat.reduceMod,Nat.reducePow,Zk,x0,x1,x2,x3,hN0,hN];exact bZ.get):A:=e p0 p1 p2 p3 ⟨b⟩
theorem zDs {A B:Prop} (l0:List Nat) (l1:List Bool) (b:B) (e:Ar l0→Ar l1→Hid B→A:=by intro x0 x1 bZ;refine Zwa x0.v x1.v ?_;simp only [push_cast,seval,↓reduceIte,Ar.v];refine Zj ?_;exact bZ.get):A:=e ⟨⟩ ⟨⟩ ⟨b⟩
theorem zG {A B:Prop} (b:B) (e:Hid B→A:=by intro bZ;(repeat (with_reducible refine And.intro (by first | (intro h0;simp only [h0,and_self];done) | (intro h0;simp only [h0,Bool.not_false,Bool.not_true,Bool.true_and,Bool.and_true,true_and,and_true,and_self,imp_self,implies_true,bne_iff_ne,ne_eq,beq_iff_eq];done) | (intros;simp_all;done) | exact True.intro) ?_));exact bZ.get):A:=e ⟨b⟩
theorem Ybs {A B:Prop} (l0:List (Option Bool)) {P1:Prop} (p1:P1) {P2:Prop} (p2:P2) {P3:Prop} (p3:P3) {P4:Prop} (p4:P4) {P5:Prop} (p5:P5) {P6:Prop} (p6:P6) {P7:Prop} (p7:P7) (b:B) (e:Ar l0→P1→P2→P3→P4→P5→P6→P7→Hid B→A:=by intro x0 x1 x2 x3 x4 x5 x6 x7 bZ;refine Xa Zz x0.v ?_;simp only [push_cast,Nat.reduceAdd,Nat.reduceSub,Nat.reduceMul,Nat.reduceLeDiff,Nat.reduceLT,Nat.reduceEqDiff,↓reduceIte,reduceCtorEq,Int.reduceBEq,Int.reduceBNe,Nat.reduceBEq,Int.reduceLE,Int.reduceLT,Int.reduceEq,Int.reduceNe,Int.reduceNeg,Nat.reduceDiv,Nat.reduceMod,Nat.reducePow,Zk,Ar.v,x1,x2,x3,x4,x5,x6,x7,hN0,hN];exact bZ.get):A:=e ⟨⟩ p1 p2 p3 p4 p5 p6 p7 ⟨b⟩
theorem zF7 {A B:Prop} {P0:Prop} (p0:P0) {P1:Prop} (p1:P1) {P2:Prop} (p2:P2) {P3:Prop} (p3:P3) {P4:Prop} (p4:P4) {P5:Prop} (p5:P5) {P6:Prop} (p6:P6) (b:B) (e:P0→P1→P2→P3→P4→P5→P6→Hid B→A:=by intro x0 x1 x2 x3 x4 x5 x6 bZ;simp only [push_cast,Nat.reduceAdd,Nat.reduceSub,Nat.reduceMul,Nat.reduceLeDiff,Nat.reduceLT,Nat.reduceEqDiff,↓reduceIte,reduceCtorEq,Int.reduceBEq,Int.reduceBNe,Nat.reduceBEq,Int.reduceLE,Int.reduceLT,Int.reduceEq,Int.reduceNe,Int.reduceNeg,Nat.reduceDiv,Nat.reduceMod,Nat.reducePow,Zk,x0,x1,x2,x3,x4,x5,x6,hN0,hN];exact bZ.get):A:=e p0 p1 p2 p3 p4 p5 p6 ⟨b⟩
theorem Ydp {A:Prop} {P0:Prop} (p0:P0) {P1:Prop} (p1:P1) {P2:Prop} (p2:P2) {P3:Prop} (p3:P3) {P4:Prop} (p4:P4) (e:P0→P1→P2→P3→P4→A:=by intro x0 x1 x2 x3 x4;have h9:=Option.some.inj x0;subst h9;refine And.intro rfl (Fit2.of (Yj hU rfl rfl ?_) (by omega));simp only [push_cast,Nat.reduceAdd,Nat.reduceSub,Nat.reduceMul,Nat.reduceLeDiff,Nat.reduceLT,Nat.reduceEqDiff,↓reduceIte,reduceCtorEq,Int.reduceBEq,Int.reduceBNe,Nat.reduceBEq,Int.reduceLE,Int.reduceLT,Int.reduceEq,Int.reduceNe,Int.reduceNeg,Nat.reduceDiv,Nat.reduceMod,Nat.reducePow,Zk,x1,x2,x3,x4,hN0,hN]):A:=e p0 p1 p2 p3 p4
theorem zRd {A B:Prop} (l0:List Nat) (l1:List Bool) (b:B) (e:Ar l0→Ar l1→Hid B→A:=by intro x0 x1 bZ;refine Xa Zz [] ?_;simp only [push_cast,seval,↓reduceIte,Zk,hN0,hN];refine Zwa x0.v x1.v ?_;simp only [push_cast,seval,↓reduceIte,Ar.v];exact bZ.get):A:=e ⟨⟩ ⟨⟩ ⟨b⟩
theorem zW {A B:Prop} (b:B) (e:Hid B→A:=by intro bZ;refine Ydc ?_;(try simp only [Xf,Yn]);exact bZ.get):A:=e ⟨b⟩
theorem zEy {A:Prop} {P0:Prop} (p0:P0) (e:P0→A:=by intro x0;have h9:=Option.some.inj x0;subst h9;refine And.intro (fun h=>by cases h) (And.intro rfl (Fit2.of (Yj hU rfl rfl ?_) (by omega)));simp only [push_cast,seval,↓reduceIte,Zk,hN0,hN]):A:=e p0
theorem zX1 {A B:Prop} {P0:Prop} (p0:P0) (b:B) (e:P0→Hid B→A:=by intro x0 bZ;simp only [push_cast,seval,↓reduceIte,Zk,x0,hN0,hN];exact bZ.get):A:=e p0 ⟨b⟩
theorem G4 {A:Prop} {P0:Prop} (p0:P0) {P1:Prop} (p1:P1) (e:P0→P1→A:=by intro x0 x1;have h9:=Option.some.inj x0;subst h9;refine And.intro rfl (Fit2.of (Yj hU rfl rfl ?_) (by omega));simp only [push_cast,seval,↓reduceIte,Zk,x1,hN0,hN]):A:=e p0 p1
theorem zX3 {A B:Prop} {P0:Prop} (p0:P0) {P1:Prop} (p1:P1) {P2:Prop} (p2:P2) (b:B) (e:P0→P1→P2→Hid B→A:=by intro x0 x1 x2 bZ;simp only [push_cast,seval,↓reduceIte,Zk,x0,x1,x2,hN0,hN];exact bZ.get):A:=e p0 p1 p2 ⟨b⟩
theorem Zl1 {A:Prop} {P0:Prop} (p0:P0) {P1:Prop} (p1:P1) {P2:Prop} (p2:P2) {P3:Prop} (p3:P3) (e:P0→P1→P2→P3→A:=by intro x0 x1 x2 x3;have h9:=Option.some.inj x0;subst h9;refine And.intro rfl (Fit2.of (Yj hU rfl rfl ?_) (by omega));simp only [push_cast,seval,↓reduceIte,Zk,x1,x2,x3,hN0,hN]):A:=e p0 p1 p2 p3
theorem zF8 {A B:Prop} {P0:Prop} (p0:P0) {P1:Prop} (p1:P1) {P2:Prop} (p2:P2) {P3:Prop} (p3:P3) {P4:Prop} (p4:P4) {P5:Prop} (p5:P5) {P6:Prop} (p6:P6) {P7:Prop} (p7:P7) (b:B) (e:P0→P1→P2→P3→P4→P5→P6→P7→Hid B→A:=by intro x0 x1 x2 x3 x4 x5 x6 x7 bZ;simp only [push_cast,Nat.reduceAdd,Nat.reduceSub,Nat.reduceMul,Nat.reduceLeDiff,Nat.reduceLT,Nat.reduceEqDiff,↓reduceIte,reduceCtorEq,Int.reduceBEq,Int.reduceBNe,Nat.reduceBEq,Int.reduceLE,Int.reduceLT,Int.reduceEq,Int.reduceNe,Int.reduceNeg,Nat.reduceDiv,Nat.reduceMod,Nat.reducePow,Zk,x0,x1,x2,x3,x4,x5,x6,x7,hN0,hN];exact bZ.get):A:=e p0 p1 p2 p3 p4 p5 p6 p7 ⟨b⟩
theorem Yf6 {A:Prop} {P0:Prop} (p0:P0) {P1:Prop} (p1:P1) {P2:Prop} (p2:P2) {P3:Prop} (p3:P3) {P4:Prop} (p4:P4) {P5:Prop} (p5:P5) {P6:Prop} (p6:P6) {P7:Prop} (p7:P7) {P8:Prop} (p8:P8) (e:P0→P1→P2→P3→P4→P5→P6→P7→P8→A:=by intro x0 x1 x2 x3 x4 x5 x6 x7 x8;have h9:=Option.some.inj x0;subst h9;refine And.intro rfl (Fit2.of (Yj hU rfl rfl ?_) (by omega));simp only [push_cast,Nat.reduceAdd,Nat.reduceSub,Nat.reduceMul,Nat.reduceLeDiff,Nat.reduceLT,Nat.reduceEqDiff,↓reduceIte,reduceCtorEq,Int.reduceBEq,Int.reduceBNe,Nat.reduceBEq,Int.reduceLE,Int.reduceLT,Int.reduceEq,Int.reduceNe,Int.reduceNeg,Nat.reduceDiv,Nat.reduceMod,Nat.reducePow,Zk,x1,x2,x3,x4,x5,x6,x7,x8,hN0,hN]):A:=e p0 p1 p2 p3 p4 p5 p6 p7 p8
theorem zX5 {A B:Prop} {P0:Prop} (p0:P0) {P1:Prop} (p1:P1) {P2:Prop} (p2:P2) {P3:Prop} (p3:P3) {P4:Prop} (p4:P4) (b:B) (e:P0→P1→P2→P3→P4→Hid B→A:=by intro x0 x1 x2 x3 x4 bZ;simp only [push_cast,seval,↓reduceIte,Zk,x0,x1,x2,x3,x4,hN0,hN];exact bZ.get):A:=e p0 p1 p2 p3 p4 ⟨b⟩
theorem Yf7 {A:Prop} {P0:Prop} (p0:P0) {P1:Prop} (p1:P1) {P2:Prop} (p2:P2) {P3:Prop} (p3:P3) {P4:Prop} (p4:P4) {P5:Prop} (p5:P5) (e:P0→P1→P2→P3→P4→P5→A:=by intro x0 x1 x2 x3 x4 x5;have h9:=Option.some.inj x0;subst h9;refine And.intro rfl (Fit2.of (Yj hU rfl rfl ?_) (by omega));simp only [push_cast,seval,↓reduceIte,Zk,x1,x2,x3,x4,x5,hN0,hN]):A:=e p0 p1 p2 p3 p4 p5
theorem zX4 {A B:Prop} {P0:Prop} (p0:P0) {P1:Prop} (p1:P1) {P2:Prop} (p2:P2) {P3:Prop} (p3:P3) (b:B) (e:P0→P1→P2→P3→Hid B→A:=by intro x0 x1 x2 x3 bZ;simp only [push_cast,seval,↓reduceIte,Zk,x0,x1,x2,x3,hN0,hN];exact bZ.get):A:=e p0 p1 p2 p3 ⟨b⟩
theorem Z19 {A:Prop} {P0:Prop} (p0:P0) {P1:Prop} (p1:P1) {P2:Prop} (p2:P2) {P3:Prop} (p3:P3) {P4:Prop} (p4:P4) (e:P0→P1→P2→P3→P4→A:=by intro x0 x1 x2 x3 x4;have h9:=Option.some.inj x0;subst h9;refine And.intro rfl (Fit2.of (Yj hU rfl rfl ?_) (by omega));simp only [push_cast,seval,↓reduceIte,Zk,x1,x2,x3,x4,hN0,hN]):A:=e p0 p1 p2 p3 p4
theorem Ybr {A:Prop} {P0:Prop} (p0:P0) {P1:Prop} (p1:P1) {P2:Prop} (p2:P2) {P3:Prop} (p3:P3) {P4:Prop} (p4:P4) {P5:Prop} (p5:P5) {P6:Prop} (p6:P6) {P7:Prop} (p7:P7) (e:P0→P1→P2→P3→P4→P5→P6→P7→A:=by intro x0 x1 x2 x3 x4 x5 x6 x7;have h9:=Option.some.inj x0;subst h9;refine And.intro rfl (Fit2.of (Yj hU rfl rfl ?_) (by omega));simp only [push_cast,Nat.reduceAdd,Nat.reduceSub,Nat.reduceMul,Nat.reduceLeDiff,Nat.reduceLT,Nat.reduceEqDiff,↓reduceIte,reduceCtorEq,Int.reduceBEq,Int.reduceBNe,Nat.reduceBEq,Int.reduceLE,Int.reduceLT,Int.reduceEq,Int.reduceNe,Int.reduceNeg,Nat.reduceDiv,Nat.reduceMod,Nat.reducePow,Zk,x1,x2,x3,x4,x5,x6,x7,hN0,hN]):A:=e p0 p1 p2 p3 p4 p5 p6 p7
theorem Zq7 {A:Prop} (l0:List G) (e:Ar l0→A:=by intro x0;have h:=Option.some.inj h;subst h;refine Z2i (.inr rfl) hU x0.v (by omega) ?_;simp only [push_cast,seval,↓reduceIte,Zk,Ar.v,hN0,hN]):A:=e ⟨⟩
theorem Yhk {A B:Prop} (l0:List Nat) {P1:Prop} (p1:P1) (b:B) (e:Ar l0→P1→Hid B→A:=by intro x0 x1 bZ;refine Zuc x0.v (Xa Zz [] ?_);simp only [push_cast,seval,↓reduceIte,Zk,Ar.v,x1,hN0,hN];exact bZ.get):A:=e ⟨⟩ p1 ⟨b⟩
theorem Zll {A B:Prop} (l0:List (Option Bool)) {P1:Prop} (p1:P1) {P2:Prop} (p2:P2) {P3:Prop} (p3:P3) (b:B) (e:Ar l0→P1→P2→P3→Hid B→A:=by intro x0 x1 x2 x3 bZ;refine Xa Zz x0.v ?_;simp only [push_cast,seval,↓reduceIte,Zk,Ar.v,x1,x2,x3,hN0,hN];exact bZ.get):A:=e ⟨⟩ p1 p2 p3 ⟨b⟩
theorem Zbb {A B:Prop} (l0:List (Option Bool)) {P1:Prop} (p1:P1) {P2:Prop} (p2:P2) (b:B) (e:Ar l0→P1→P2→Hid B→A:=by intro x0 x1 x2 bZ;refine Xa Zz x0.v ?_;simp only [push_cast,seval,↓reduceIte,Zk,Ar.v,x1,x2,hN0,hN];exact bZ.get):A:=e ⟨⟩ p1 p2 ⟨b⟩
theorem Z2b {A B:Prop} (l0:List (Option Bool)) {P1:Prop} (p1:P1) {P2:Prop} (p2:P2) {P3:Prop} (p3:P3) {P4:Prop} (p4:P4) (b:B) (e:Ar l0→P1→P2→P3→P4→Hid B→A:=by intro x0 x1 x2 x3 x4 bZ;refine Xa Zz x0.v ?_;simp only [push_cast,seval,↓reduceIte,Zk,Ar.v,x1,x2,x3,x4,hN0,hN];exact bZ.get):A:=e ⟨⟩ p1 p2 p3 p4 ⟨b⟩
theorem Ve {A:Prop} {P0:Prop} (p0:P0) {P1:Prop} (p1:P1) (e:P0→P1→A:=by intro x0 x1;simp only [push_cast,seval,↓reduceIte,Zk,x0,x1,hN0,hN]):A:=e p0 p1
theorem zX2 {A B:Prop} {P0:Prop} (p0:P0) {P1:Prop} (p1:P1) (b:B) (e:P0→P1→Hid B→A:=by intro x0 x1 bZ;simp only [push_cast,seval,↓reduceIte,Zk,x0,x1,hN0,hN];exact bZ.get):A:=e p0 p1 ⟨b⟩
theorem Zm2 {A:Prop} {P0:Prop} (p0:P0) {P1:Prop} (p1:P1) {P2:Prop} (p2:P2) (e:P0→P1→P2→A:=by intro x0 x1 x2;have h9:=Option.some.inj x0;subst h9;refine And.intro rfl (Fit2.of (Yj hU rfl rfl ?_) (by omega));simp only [push_cast,seval,↓reduceIte,Zk,x1,x2,hN0,hN]):A:=e p0 p1 p2
theorem Zbv {A B:Prop} (l0:List (Option Bool)) {P1:Prop} (p1:P1) (b:B) (e:Ar l0→P1→Hid B→A:=by intro x0 x1 bZ;refine Xa Zz x0.v ?_;simp only [push_cast,seval,↓reduceIte,Zk,Ar.v,x1,hN0,hN];exact bZ.get):A:=e ⟨⟩ p1 ⟨b⟩
theorem Yhl {A:Prop} {P0:Prop} (p0:P0) {P1:Prop} (p1:P1) {P2:Prop} (p2:P2) {P3:Prop} (p3:P3) (e:P0→P1→P2→P3→A:=by intro x0 x1 x2 x3;simp only [push_cast,seval,↓reduceIte,Zk,x0,x1,x2,x3,hN0,hN]):A:=e p0 p1 p2 p3
theorem zSe {A:Prop} (e:A:=by simp only [push_cast,seval,↓reduceIte,Zk,hN0,hN]):A:=e
theorem Z5k {A:Prop} {P0:Prop} (p0:P0) {P1:Prop} (p1:P1) {P2:Prop} (p2:P2) (e:P0→P1→P2→A:=by intro x0 x1 x2;simp only [push_cast,seval,↓reduceIte,Zk,x0,x1,x2,hN0,hN]):A:=e p0 p1 p2
theorem zO {A B:Prop} (b:B) (e:Hid B→A:=by intro bZ;(repeat (with_reducible refine And.intro (by first | omega | exact Gt rfl | exact Ua | exact Z8f rfl | exact Z3r rfl rfl | exact Zzc rfl | exact Z3q rfl) ?_));exact bZ.get):A:=e ⟨b⟩
theorem Yf9 {A B:Prop} (l0:List Nat) {P1:Prop} (p1:P1) {P2:Prop} (p2:P2) {P3:Prop} (p3:P3) {P4:Prop} (p4:P4) (b:B) (e:Ar l0→P1→P2→P3→P4→Hid B→A:=by intro x0 x1 x2 x3 x4 bZ;refine Zuc x0.v (Xa Zz [] ?_);simp only [push_cast,seval,↓reduceIte,Zk,Ar.v,x1,x2,x3,x4,hN0,hN];exact bZ.get):A:=e ⟨⟩ p1 p2 p3 p4 ⟨b⟩
theorem Z8a {A B:Prop} (l0:List (Option Bool)) {P1:Prop} (p1:P1) {P2:Prop} (p2:P2) {P3:Prop} (p3:P3) {P4:Prop} (p4:P4) {P5:Prop} (p5:P5) (b:B) (e:Ar l0→P1→P2→P3→P4→P5→Hid B→A:=by intro x0 x1 x2 x3 x4 x5 bZ;refine Xa Zz x0.v ?_;simp only [push_cast,Nat.reduceAdd,Nat.reduceSub,Nat.reduceMul,Nat.reduceLeDiff,Nat.reduceLT,Nat.reduceEqDiff,↓reduceIte,reduceCtorEq,Int.reduceBEq,Int.reduceBNe,Nat.reduceBEq,Int.reduceLE,Int.reduceLT,Int.reduceEq,Int.reduceNe,Int.reduceNeg,Nat.reduceDiv,Nat.reduceMod,Nat.reducePow,Zk,Ar.v,x1,x2,x3,x4,x5,hN0,hN];exact bZ.get):A:=e ⟨⟩ p1 p2 p3 p4 p5 ⟨b⟩
theorem Yf5 {A:Prop} {P0:Prop} (p0:P0) {P1:Prop} (p1:P1) {P2:Prop} (p2:P2) {P3:Prop} (p3:P3) {P4:Prop} (p4:P4) {P5:Prop} (p5:P5) (e:P0→P1→P2→P3→P4→P5→A:=by intro x0 x1 x2 x3 x4 x5;have h9:=Option.some.inj x0;subst h9;refine And.intro rfl (Fit2.of (Yj hU rfl rfl ?_) (by omega));simp only [push_cast,Nat.reduceAdd,Nat.reduceSub,Nat.reduceMul,Nat.reduceLeDiff,Nat.reduceLT,Nat.reduceEqDiff,↓reduceIte,reduceCtorEq,Int.reduceBEq,Int.reduceBNe,Nat.reduceBEq,Int.reduceLE,Int.reduceLT,Int.reduceEq,Int.reduceNe,Int.reduceNeg,Nat.reduceDiv,Nat.reduceMod,Nat.reducePow,Zk,x1,x2,x3,x4,x5,hN0,hN]):A:=e p0 p1 p2 p3 p4 p5
theorem zS {A B:Prop} (b:B) (e:Hid B→A:=by intro bZ;simp only [push_cast,seval,↓reduceIte,Zk,hN0,hN];exact bZ.get):A:=e ⟨b⟩
theorem zTs {A B:Prop} {P0:Prop} (p0:P0) (b:B) (e:P0→Hid B→A:=by intro x0 bZ;refine x0.then ?_;simp only [push_cast,seval,↓reduceIte,Zk,hN0,hN];exact bZ.get):A:=e p0 ⟨b⟩
theorem Zdv {A B:Prop} (l0:List Nat) {P1:Prop} (p1:P1) {P2:Prop} (p2:P2) (b:B) (e:Ar l0→P1→P2→Hid B→A:=by intro x0 x1 x2 bZ;refine Zuc x0.v (Xa Zz [] ?_);simp only [push_cast,seval,↓reduceIte,Zk,Ar.v,x1,x2,hN0,hN];exact bZ.get):A:=e ⟨⟩ p1 p2 ⟨b⟩
theorem zF9 {A B:Prop} {P0:Prop} (p0:P0) {P1:Prop} (p1:P1) {P2:Prop} (p2:P2) {P3:Prop} (p3:P3) {P4:Prop} (p4:P4) {P5:Prop} (p5:P5) {P6:Prop} (p6:P6) {P7:Prop} (p7:P7) {P8:Prop} (p8:P8) (b:B) (e:P0→P1→P2→P3→P4→P5→P6→P7→P8→Hid B→A:=by intro x0 x1 x2 x3 x4 x5 x6 x7 x8 bZ;simp only [push_cast,Nat.reduceAdd,Nat.reduceSub,Nat.reduceMul,Nat.reduceLeDiff,Nat.reduceLT,Nat.reduceEqDiff,↓reduceIte,reduceCtorEq,Int.reduceBEq,Int.reduceBNe,Nat.reduceBEq,Int.reduceLE,Int.reduceLT,Int.reduceEq,Int.reduceNe,Int.reduceNeg,Nat.reduceDiv,Nat.reduceMod,Nat.reducePow,Zk,x0,x1,x2,x3,x4,x5,x6,x7,x8,hN0,hN];exact bZ.get):A:=e p0 p1 p2 p3 p4 p5 p6 p7 p8 ⟨b⟩
theorem Z5j {A:Prop} {P0:Prop} (p0:P0) {P1:Prop} (p1:P1) {P2:Prop} (p2:P2) {P3:Prop} (p3:P3) {P4:Prop} (p4:P4) {P5:Prop} (p5:P5) {P6:Prop} (p6:P6) {P7:Prop} (p7:P7) {P8:Prop} (p8:P8) (e:P0→P1→P2→P3→P4→P5→P6→P7→P8→A:=by intro x0 x1 x2 x3 x4 x5 x6 x7 x8;simp only [push_cast,Nat.reduceAdd,Nat.reduceSub,Nat.reduceMul,Nat.reduceLeDiff,Nat.reduceLT,Nat.reduceEqDiff,↓reduceIte,reduceCtorEq,Int.reduceBEq,Int.reduceBNe,Nat.reduceBEq,Int.reduceLE,Int.reduceLT,Int.reduceEq,Int.reduceNe,Int.reduceNeg,Nat.reduceDiv,Nat.reduceMod,Nat.reducePow,Zk,x0,x1,x2,x3,x4,x5,x6,x7,x8,hN0,hN]):A:=e p0 p1 p2 p3 p4 p5 p6 p7 p8
theorem zXt {A B:Prop} (b:B) (e:Hid B→A:=by intro bZ;refine Z88 ?_;(try simp only [Xf,Yn,↓reduceIte,Nat.reduceEqDiff]);exact bZ.get):A:=e ⟨b⟩
theorem zF6 {A B:Prop} {P0:Prop} (p0:P0) {P1:Prop} (p1:P1) {P2:Prop} (p2:P2) {P3:Prop} (p3:P3) {P4:Prop} (p4:P4) {P5:Prop} (p5:P5) (b:B) (e:P0→P1→P2→P3→P4→P5→Hid B→A:=by intro x0 x1 x2 x3 x4 x5 bZ;simp only [push_cast,Nat.reduceAdd,Nat.reduceSub,Nat.reduceMul,Nat.reduceLeDiff,Nat.reduceLT,Nat.reduceEqDiff,↓reduceIte,reduceCtorEq,Int.reduceBEq,Int.reduceBNe,Nat.reduceBEq,Int.reduceLE,Int.reduceLT,Int.reduceEq,Int.reduceNe,Int.reduceNeg,Nat.reduceDiv,Nat.reduceMod,Nat.reducePow,Zk,x0,x1,x2,x3,x4,x5,hN0,hN];exact bZ.get):A:=e p0 p1 p2 p3 p4 p5 ⟨b⟩
theorem Ygb {A B:Prop} (l0:List (Option Bool)) {P1:Prop} (p1:P1) {P2:Prop} (p2:P2) {P3:Prop} (p3:P3) {P4:Prop} (p4:P4) {P5:Prop} (p5:P5) (b:B) (e:Ar l0→P1→P2→P3→P4→P5→Hid B→A:=by intro x0 x1 x2 x3 x4 x5 bZ;refine Xa Zz x0.v ?_;simp only [push_cast,seval,↓reduceIte,Zk,Ar.v,x1,x2,x3,x4,x5,hN0,hN];exact bZ.get):A:=e ⟨⟩ p1 p2 p3 p4 p5 ⟨b⟩
theorem Ygc {A:Prop} {P0:Prop} (p0:P0) {P1:Prop} (p1:P1) {P2:Prop} (p2:P2) {P3:Prop} (p3:P3) {P4:Prop} (p4:P4) (e:P0→P1→P2→P3→P4→A:=by intro x0 x1 x2 x3 x4;simp only [push_cast,seval,↓reduceIte,Zk,x0,x1,x2,x3,x4,hN0,hN]):A:=e p0 p1 p2 p3 p4
theorem Yga {A B:Prop} (l0:List (Option Bool)) {P1:Prop} (p1:P1) {P2:Prop} (p2:P2) {P3:Prop} (p3:P3) {P4:Prop} (p4:P4) {P5:Prop} (p5:P5) {P6:Prop} (p6:P6) (b:B) (e:Ar l0→P1→P2→P3→P4→P5→P6→Hid B→A:=by intro x0 x1 x2 x3 x4 x5 x6 bZ;refine Xa Zz x0.v ?_;simp only [push_cast,Nat.reduceAdd,Nat.reduceSub,Nat.reduceMul,Nat.reduceLeDiff,Nat.reduceLT,Nat.reduceEqDiff,↓reduceIte,reduceCtorEq,Int.reduceBEq,Int.reduceBNe,Nat.reduceBEq,Int.reduceLE,Int.reduceLT,Int.reduceEq,Int.reduceNe,Int.reduceNeg,Nat.reduceDiv,Nat.reduceMod,Nat.reducePow,Zk,Ar.v,x1,x2,x3,x4,x5,x6,hN0,hN];exact bZ.get):A:=e ⟨⟩ p1 p2 p3 p4 p5 p6 ⟨b⟩
theorem Yf8 {A:Prop} {P0:Prop} (p0:P0) {P1:Prop} (p1:P1) {P2:Prop} (p2:P2) {P3:Prop} (p3:P3) {P4:Prop} (p4:P4) {P5:Prop} (p5:P5) (e:P0→P1→P2→P3→P4→P5→A:=by intro x0 x1 x2 x3 x4 x5;simp only [push_cast,Nat.reduceAdd,Nat.reduceSub,Nat.reduceMul,Nat.reduceLeDiff,Nat.reduceLT,Nat.reduceEqDiff,↓reduceIte,reduceCtorEq,Int.reduceBEq,Int.reduceBNe,Nat.reduceBEq,Int.reduceLE,Int.reduceLT,Int.reduceEq,Int.reduceNe,Int.reduceNeg,Nat.reduceDiv,Nat.reduceMod,Nat.reducePow,Zk,x0,x1,x2,x3,x4,x5,hN0,hN]):A:=e p0 p1 p2 p3 p4 p5
theorem zEf {A:Prop} (e:A:=by refine And.intro rfl (Fit2.of (Yj hU rfl rfl ?_) (by omega));simp only [push_cast,seval,↓reduceIte,Zk,hN0,hN]):A:=e
theorem zRo {A B:Prop} (l0:List (Option Bool)) (b:B) (e:Ar l0→Hid B→A:=by intro x0 bZ;refine Xa Zz x0.v ?_;simp only [push_cast,seval,↓reduceIte,Zk,Ar.v,hN0,hN];exact bZ.get):A:=e ⟨⟩ ⟨b⟩
theorem zX6 {A B:Prop} {P0:Prop} (p0:P0) {P1:Prop} (p1:P1) {P2:Prop} (p2:P2) {P3:Prop} (p3:P3) {P4:Prop} (p4:P4) {P5:Prop} (p5:P5) (b:B) (e:P0→P1→P2→P3→P4→P5→Hid B→A:=by intro x0 x1 x2 x3 x4 x5 bZ;simp only [push_cast,seval,↓reduceIte,Zk,x0,x1,x2,x3,x4,x5,hN0,hN];exact bZ.get):A:=e p0 p1 p2 p3 p4 p5 ⟨b⟩
theorem Ybt {A B:Prop} (l0:List (Option Bool)) {P1:Prop} (p1:P1) {P2:Prop} (p2:P2) {P3:Prop} (p3:P3) {P4:Prop} (p4:P4) {P5:Prop} (p5:P5) {P6:Prop} (p6:P6) (b:B) (e:Ar l0→P1→P2→P3→P4→P5→P6→Hid B→A:=by intro x0 x1 x2 x3 x4 x5 x6 bZ;refine Xa Zz x0.v ?_;simp only [push_cast,seval,↓reduceIte,Zk,Ar.v,x1,x2,x3,x4,x5,x6,hN0,hN];exact bZ.get):A:=e ⟨⟩ p1 p2 p3 p4 p5 p6 ⟨b⟩
theorem zF5 {A B:Prop} {P0:Prop} (p0:P0) {P1:Prop} (p1:P1) {P2:Prop} (p2:P2) {P3:Prop} (p3:P3) {P4:Prop} (p4:P4) (b:B) (e:P0→P1→P2→P3→P4→Hid B→A:=by intro x0 x1 x2 x3 x4 bZ;simp only [push_cast,Nat.reduceAdd,Nat.reduceSub,Nat.reduceMul,Nat.reduceLeDiff,Nat.reduceLT,Nat.reduceEqDiff,↓reduceIte,reduceCtorEq,Int.reduceBEq,Int.reduceBNe,Nat.reduceBEq,Int.reduceLE,Int.reduceLT,Int.reduceEq,Int.reduceNe,Int.reduceNeg,Nat.reduceDiv,Nat.reduceMod,Nat.reducePow,Zk,x0,x1,x2,x3,x4,hN0,hN];exact bZ.get):A:=e p0 p1 p2 p3 p4 ⟨b⟩
theorem Ydb {A B:Prop} {P0:Prop} (p0:P0) {P1:Prop} (p1:P1) {P2:Prop} (p2:P2) {P3:Prop} (p3:P3) {P4:Prop} (p4:P4) {P5:Prop} (p5:P5) {P6:Prop} (p6:P6) {P7:Prop} (p7:P7) {P8:Prop} (p8:P8) {P9:Prop} (p9:P9) (b:B) (e:P0→P1→P2→P3→P4→P5→P6→P7→P8→P9→Hid B→A:=by intro x0 x1 x2 x3 x4 x5 x6 x7 x8 x9 bZ;simp only [push_cast,Nat.reduceAdd,Nat.reduceSub,Nat.reduceMul,Nat.reduceLeDiff,Nat.reduceLT,Nat.reduceEqDiff,↓reduceIte,reduceCtorEq,Int.reduceBEq,Int.reduceBNe,Nat.reduceBEq,Int.reduceLE,Int.reduceLT,Int.reduceEq,Int.reduceNe,Int.reduceNeg,Nat.reduceDiv,Nat.reduceMod,Nat.reducePow,Zk,x0,x1,x2,x3,x4,x5,x6,x7,x8,x9,hN0,hN];exact bZ.get):A:=e p0 p1 p2 p3 p4 p5 p6 p7 p8 p9 ⟨b⟩
theorem Z79 {A:Prop} {P0:Prop} (p0:P0) {P1:Prop} (p1:P1) {P2:Prop} (p2:P2) {P3:Prop} (p3:P3) {P4:Prop} (p4:P4) {P5:Prop} (p5:P5) {P6:Prop} (p6:P6) {P7:Prop} (p7:P7) {P8:Prop} (p8:P8) {P9:Prop} (p9:P9) (e:P0→P1→P2→P3→P4→P5→P6→P7→P8→P9→A:=by intro x0 x1 x2 x3 x4 x5 x6 x7 x8 x9;simp only [push_cast,Nat.reduceAdd,Nat.reduceSub,Nat.reduceMul,Nat.reduceLeDiff,Nat.reduceLT,Nat.reduceEqDiff,↓reduceIte,reduceCtorEq,Int.reduceBEq,Int.reduceBNe,Nat.reduceBEq,Int.reduceLE,Int.reduceLT,Int.reduceEq,Int.reduceNe,Int.reduceNeg,Nat.reduceDiv,Nat.reduceMod,Nat.reducePow,Zk,x0,x1,x2,x3,x4,x5,x6,x7,x8,x9,hN0,hN]):A:=e p0 p1 p2 p3 p4 p5 p6 p7 p8 p9
theorem Ygd {A:Prop} {P0:Prop} (p0:P0) {P1:Prop} (p1:P1) {P2:Prop} (p2:P2) {P3:Prop} (p3:P3) {P4:Prop} (p4:P4) {P5:Prop} (p5:P5) (e:P0→P1→P2→P3→P4→P5→A:=by intro x0 x1 x2 x3 x4 x5;simp only [push_cast,seval,↓reduceIte,Zk,x0,x1,x2,x3,x4,x5,hN0,hN]):A:=e p0 p1 p2 p3 p4 p5
end Go.Proofs.Ytbjcopkgdjombaa
