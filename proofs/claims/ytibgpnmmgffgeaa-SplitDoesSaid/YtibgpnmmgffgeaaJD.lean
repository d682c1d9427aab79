/- Part JD of this seat's mirrors: functions of the seat's program, and the plain functions that they are; each theorem bears its own conditions. -/
import Derived.Test.YtibgpnmmgffgeaaH27
import Derived.Test.YtibgpnmmgffgeaaTy
namespace Go.Proofs.Ytibgpnmmgffgeaa
open Go.RowKit
set_option linter.unusedVariables false
set_option linter.unusedSimpArgs false
set_option maxRecDepth 100000
set_option maxHeartbeats 4000000
structure Zb where
 Kind:Int
 Words:(List Int)
 Kids:(List Zb)
noncomputable def X7 (Qg:(Zb→Int→Int→Option Int)) (a0:Zb) (a1:Int) (s0_:(Int×Int)):Option ((Int×Int) ⊕ Int) :=
 cond (cond (decide (s0_.2 < (a0.Kids.length:Int))) (decide (0≤s0_.1)) false) ((Xj a0.Kids s0_.2).bind fun x1=>(Qg x1 (IntKind.i64.wrap (a1 - 1)) s0_.1).bind fun y2=>some (.inl (y2,(IntKind.i64.wrap (s0_.2+1))))) (some (.inr s0_.1))
noncomputable def Qd (Qg:(Zb→Int→Int→Option Int)) (a0:Zb) (a1:Int) (a2:Int):Option Int :=
 cond (cond (a1 == 0) true (decide ((IntKind.i64.wrap ((IntKind.i64.wrap (a2 - 1)) - (a0.Words.length:Int))) < 0))) (some (-1)) ((Zw (X7 Qg a0 a1) ((IntKind.i64.wrap ((IntKind.i64.wrap (a2 - 1)) - (a0.Words.length:Int))),0)).bind fun (z4:Int)=>some z4)
noncomputable def Yx:Nat→(Zb→Int→Int→Option Int)
 | 0=>(fun _ _ _=>none)
 | k+1=>Qd ((Yx k))
noncomputable def Qf (a0:Zb) (a1:Int) (a2:Int):Option Int:=lim fun k=>(Yx k) a0 a1 a2
structure Zr where
 At:Int
 Mask:Int
 Old:Int
 New:Int
mutual
structure Zc where
 Kind:Int
 Old:Zb
 New:Zb
 Words:(List Zr)
 Kids:(List Zm)
 List_:Int
 Ops:(List Zl)
structure Zm where
 At:Int
 E:Zc
structure Zl where
 Kind:Int
 N:Int
 L:(List Zb)
 E:Zc
end
noncomputable def Qw (Xw:(Zc→Int→Int→Option Int)) (a0:Zc) (a1:Int) (s0_:(Int×Int)):Option ((Int×Int) ⊕ Int) :=
 cond (cond (decide (s0_.2 < (a0.Kids.length:Int))) (decide (0≤s0_.1)) false) ((Xj a0.Kids s0_.2).bind fun x6=>(Xw x6.E (IntKind.i64.wrap (a1 - 1)) s0_.1).bind fun y8=>some (.inl (y8,(IntKind.i64.wrap (s0_.2+1))))) (some (.inr s0_.1))
noncomputable def Vi (a0:Zc) (s1_:(Int×Int)) (s2_:(Int×Int)):Option ((Int×Int) ⊕ Int) :=
 (Xj a0.Ops s1_.2).bind fun x14=>cond (cond (decide (s2_.2 < (x14.L.length:Int))) (decide (0≤s2_.1)) false) ((Xj a0.Ops s1_.2).bind fun x16=>(Xj x16.L s2_.2).bind fun x18=>(Qf x18 80 s2_.1).bind fun y19=>some (.inl (y19,(IntKind.i64.wrap (s2_.2+1))))) (some (.inr s2_.1))
noncomputable def Qx (Xw:(Zc→Int→Int→Option Int)) (a0:Zc) (a1:Int) (s1_:(Int×Int)):Option ((Int×Int) ⊕ Int) :=
 cond (cond (decide (s1_.2 < (a0.Ops.length:Int))) (decide (0≤s1_.1)) false) (((Zw (Vi a0 s1_) (s1_.1,0)).bind fun (z21:Int)=>cond (decide (0≤z21)) ((Xj a0.Ops s1_.2).bind fun x22=>(Xw x22.E (IntKind.i64.wrap (a1 - 1)) z21).bind fun y24=>some y24) (some z21)).bind fun (z11:Int)=>some (.inl (z11,(IntKind.i64.wrap (s1_.2+1))))) (some (.inr s1_.1))
noncomputable def Jg (Xw:(Zc→Int→Int→Option Int)) (a0:Zc) (a1:Int) (a2:Int):Option Int :=
 cond (cond (a1 == 0) true (decide ((IntKind.i64.wrap ((IntKind.i64.wrap ((IntKind.i64.wrap (a2 - 1)) - (a0.Words.length:Int))) - (a0.Ops.length:Int))) < 0))) (some (-1)) ((Qf a0.Old 80 (IntKind.i64.wrap ((IntKind.i64.wrap ((IntKind.i64.wrap (a2 - 1)) - (a0.Words.length:Int))) - (a0.Ops.length:Int)))).bind fun y2=>(cond (decide (0≤y2)) ((Qf a0.New 80 y2).bind fun y4=>some y4) (some y2)).bind fun (z3:Int)=>(Zw (Qw Xw a0 a1) (z3,0)).bind fun (z10:Int)=>(Zw (Qx Xw a0 a1) (z10,0)).bind fun (z27:Int)=>some z27)
noncomputable def Ys:Nat→(Zc→Int→Int→Option Int)
 | 0=>(fun _ _ _=>none)
 | k+1=>Jg ((Ys k))
noncomputable def Zfj (a0:Zc) (a1:Int) (a2:Int):Option Int:=lim fun k=>(Ys k) a0 a1 a2
noncomputable def Zas (a0:Zc):Option Bool :=
 (Zfj a0 80 3000).bind fun y2=>some (decide (0≤y2))
noncomputable def Jh (a0:Zb):Option Bool :=
 some (cond (a0.Kind == 0) ((IntKind.i64.wrap ((a0.Words.length:Int)+(a0.Kids.length:Int))) == 0) false)
noncomputable def Zeu (a0:Int):Option Int :=
 cond (a0 == 0) (some 0) (cond (a0 == 1) (some 1) (cond (a0 == 2) (some 8) (cond (a0 == 3) (some 16) (cond (a0 == 4) (some 32) (cond (a0 == 5) (some 64) (some (-1)))))))
noncomputable def Qe (y2:Int) (s0_:(Int×Int)):Option ((Int×Int) ⊕ Int) :=
 cond (decide (s0_.2 < y2)) (some (.inl ((IntKind.u64.wrap (Int.tdiv s0_.1 2)),(IntKind.i64.wrap (s0_.2+1))))) (some (.inr s0_.1))
noncomputable def Vw (a0:Int) (a1:Int):Option Bool :=
 (Zeu a0).bind fun y2=>cond (decide (y2 < 0)) (some false) ((Zw (Qe y2) (a1,0)).bind fun (z4:Int)=>some (z4 == 0))
noncomputable def Kz (Q1:(Zb→Int→Option Bool)) (a0:Zb) (a1:Int) (s0_:Int):Option (Int ⊕ (Unit ⊕ Unit)) :=
 cond (decide (s0_ < (a0.Kids.length:Int))) ((Xj a0.Kids s0_).bind fun x2=>(Q1 x2 (IntKind.i64.wrap (a1 - 1))).bind fun y4=>cond (!y4) (some (.inr (.inl ()))) ((cond ((cond (decide (2≤a0.Kind)) (decide (a0.Kind≤7)) false) != (x2.Kind == 10)) (some true) (cond (a0.Kind == 9) (cond (x2.Kind != 1) (some true) (cond (decide (2≤a0.Kind)) (cond (decide (a0.Kind≤7)) ((Xj x2.Words 0).bind fun x14=>(Vw (IntKind.i64.wrap (a0.Kind - 2)) x14).bind fun y15=>some (cond (cond ((cond (decide (2≤a0.Kind)) (decide (a0.Kind≤7)) false) != (x2.Kind == 10)) true (cond (a0.Kind == 9) (x2.Kind != 1) false)) true (cond (cond (decide (2≤a0.Kind)) (decide (a0.Kind≤7)) false) (!y15) false))) (some (cond (cond ((cond (decide (2≤a0.Kind)) (decide (a0.Kind≤7)) false) != (x2.Kind == 10)) true (cond (a0.Kind == 9) (x2.Kind != 1) false)) true false))) (some (cond (cond ((cond (decide (2≤a0.Kind)) (decide (a0.Kind≤7)) false) != (x2.Kind == 10)) true (cond (a0.Kind == 9) (x2.Kind != 1) false)) true false)))) (cond (decide (2≤a0.Kind)) (cond (decide (a0.Kind≤7)) ((Xj x2.Words 0).bind fun x16=>(Vw (IntKind.i64.wrap (a0.Kind - 2)) x16).bind fun y17=>some (cond (cond ((cond (decide (2≤a0.Kind)) (decide (a0.Kind≤7)) false) != (x2.Kind == 10)) true (cond (a0.Kind == 9) (x2.Kind != 1) false)) true (cond (cond (decide (2≤a0.Kind)) (decide (a0.Kind≤7)) false) (!y17) false))) (some (cond (cond ((cond (decide (2≤a0.Kind)) (decide (a0.Kind≤7)) false) != (x2.Kind == 10)) true (cond (a0.Kind == 9) (x2.Kind != 1) false)) true false))) (some (cond (cond ((cond (decide (2≤a0.Kind)) (decide (a0.Kind≤7)) false) != (x2.Kind == 10)) true (cond (a0.Kind == 9) (x2.Kind != 1) false)) true false))))).bind fun (z9:Bool)=>cond z9 (some (.inr (.inl ()))) (some (.inl (IntKind.i64.wrap (s0_+1)))))) (some (.inr (.inr ())))
noncomputable def Ut (Q1:(Zb→Int→Option Bool)) (a0:Zb) (a1:Int):Option Bool :=
 cond (a0.Kind == 0) (some (cond ((a0.Words.length:Int) == 0) ((a0.Kids.length:Int) == 0) false)) (cond (a0.Kind == 10) (some (cond ((a0.Words.length:Int) == 1) ((a0.Kids.length:Int) == 0) false)) (cond (cond (cond (cond (cond (cond (decide (a0.Kind < 0)) true (decide (10 < a0.Kind))) true (a1 == 0)) true (decide (65536≤(a0.Words.length:Int)))) true (cond (a0.Kind == 1) (decide (65536≤(a0.Kids.length:Int))) false)) true (decide (1048576≤(a0.Kids.length:Int)))) (some false) (cond (cond (decide (1 < a0.Kind)) (decide (0 < (a0.Words.length:Int))) false) (some false) ((Zw (Kz Q1 a0 a1) 0).bind fun (z28:(Unit ⊕ Unit))=>match z28 with | .inl z28=>some false | .inr z28=>some true))))
noncomputable def Jc:Nat→(Zb→Int→Option Bool)
 | 0=>(fun _ _=>none)
 | k+1=>Ut ((Jc k))
noncomputable def K9 (a0:Zb) (a1:Int):Option Bool:=lim fun k=>(Jc k) a0 a1
noncomputable def K4 (s0_:(Int×Int×(Arr Int 8))):Option ((Int×Int×(Arr Int 8)) ⊕ (Arr Int 8)) :=
 cond (decide (s0_.2.1 < 8)) ((Xj s0_.2.2.1 s0_.2.1).bind fun x15=>some (.inl ((IntKind.u64.wrap (Int.tdiv s0_.1 256)),(IntKind.i64.wrap (s0_.2.1+1)),(Arr.put s0_.2.2 s0_.2.1 (IntKind.u8.wrap (Int.tmod s0_.1 256)))))) (some (.inr s0_.2.2))
noncomputable def K8 (a0:Int):Option (Arr Int 8) :=
 ((some (⟨[0,0,0,0,0,0,0,0],rfl⟩:(Arr Int 8)))).bind fun y3=>((some (⟨[0,0,0,0,0,0,0,0],rfl⟩:(Arr Int 8)))).bind fun y9=>(Zw (K4) (a0,0,y9)).bind fun (z18:(Arr Int 8))=>some z18
noncomputable def Jo (a1:Int) (s0_:(Int×Int)):Option ((Int×Int) ⊕ Int) :=
 cond (decide (s0_.2 < a1)) (some (.inl ((IntKind.u8.wrap (Int.tdiv s0_.1 2)),(IntKind.i64.wrap (s0_.2+1))))) (some (.inr s0_.1))
noncomputable def U3 (a0:Int) (a1:Int):Option Bool :=
 (Zw (Jo a1) (a0,0)).bind fun (z2:Int)=>some ((Int.tmod z2 2) == 1)
noncomputable def U4 (a0:(List Int)) (a1:Int) (s0_:(Int×Int)):Option ((Int×Int) ⊕ Int) :=
 cond (decide (0≤s0_.2)) ((Xj a0 (IntKind.i64.wrap (a1+s0_.2))).bind fun x1=>some (.inl ((IntKind.u64.wrap ((IntKind.u64.wrap (s0_.1 * 256))+(IntKind.u64.wrap x1))),(IntKind.i64.wrap (s0_.2 - 1))))) (some (.inr s0_.1))
noncomputable def Zep (a0:(List Int)) (a1:Int):Option Int :=
 (Zw (U4 a0 a1) (0,7)).bind fun (z3:Int)=>some z3
noncomputable def Uc (a2:Int) (y9:(Arr Int 8)) (s0_:(Int×(Arr Int 8))):Option ((Int×(Arr Int 8)) ⊕ (Arr Int 8)) :=
 cond (decide (s0_.1 < 8)) (((U3 a2 s0_.1).bind fun y17=>cond y17 ((Xj y9.1 s0_.1).bind fun x18=>(Xj s0_.2.1 s0_.1).bind fun x19=>some (Arr.put s0_.2 s0_.1 x18)) (some s0_.2)).bind fun (z15:(Arr Int 8))=>some (.inl ((IntKind.i64.wrap (s0_.1+1)),z15))) (some (.inr s0_.2))
noncomputable def Zaq (a0:Int) (a1:Int) (a2:Int):Option Int :=
 (K8 a0).bind fun y8=>(K8 a1).bind fun y9=>((some (⟨[0,0,0,0,0,0,0,0],rfl⟩:(Arr Int 8)))).bind fun y10=>(Zw (Uc a2 y9) (0,y8)).bind fun (z23:(Arr Int 8))=>(Zep z23.1 0).bind fun y29=>some y29
noncomputable def Ks (a0:Int) (a1:Int):Option Bool :=
 (Zaq a0 0 a1).bind fun y2=>some (y2 == 0)
noncomputable def Vx (a0:Zc):Option Bool :=
 (cond (a0.Kind == 0) ((Jh a0.Old).bind fun y6=>cond y6 ((Jh a0.New).bind fun y7=>some (cond (cond (cond (cond (a0.Kind == 0) y6 false) y7 false) ((IntKind.i64.wrap ((IntKind.i64.wrap ((a0.Words.length:Int)+(a0.Kids.length:Int)))+(a0.Ops.length:Int))) == 0) false) (a0.List_ == 0) false)) (some false)) (some false)).bind fun (z3:Bool)=>some z3
noncomputable def J6 (a0:Zc) (s0_:(Int×Int×Int)):Option ((Int×Int×Int) ⊕ (Int×Int)) :=
 cond (decide (s0_.2.2 < (a0.Ops.length:Int))) (((Xj a0.Ops s0_.2.2).bind fun x3=>(cond (x3.Kind == 3) (some 1) (some (IntKind.i64.wrap (x3.N+(x3.L.length:Int))))).bind fun (z4:Int)=>(cond (x3.Kind != 2) (some (IntKind.i64.wrap (s0_.1+z4))) (some s0_.1)).bind fun (z6:Int)=>(cond (x3.Kind != 1) (some (IntKind.i64.wrap (s0_.2.1+z4))) (some s0_.2.1)).bind fun (z8:Int)=>(cond (decide (1048576 < z6)) (some 1048576) (some z6)).bind fun (z10:Int)=>cond (decide (1048576 < z8)) (some (z10,1048576)) (some (z10,z8))).bind fun (z1:(Int×Int))=>some (.inl (z1.1,z1.2,(IntKind.i64.wrap (s0_.2.2+1))))) (some (.inr (s0_.1,s0_.2.1)))
noncomputable def J5 (a0:Zc):Option (Int×Int) :=
 (Zw (J6 a0) (0,0,0)).bind fun (z14:(Int×Int))=>some (z14.1,z14.2)
noncomputable def Jm (a0:Zc) (s0_:(Int×Int)):Option ((Int×Int) ⊕ (Unit ⊕ Unit)) :=
 cond (decide (s0_.2 < (a0.Words.length:Int))) ((Xj a0.Words s0_.2).bind fun x19=>(cond (decide (x19.At≤s0_.1)) (some true) (cond (decide (65534 < x19.At)) (some true) (cond (x19.Mask == 0) (some true) ((Ks x19.Old x19.Mask).bind fun y25=>cond y25 ((Ks x19.New x19.Mask).bind fun y26=>some (cond (cond (cond (cond (decide (x19.At≤s0_.1)) true (decide (65534 < x19.At))) true (x19.Mask == 0)) true (!y25)) true (!y26))) (some true))))).bind fun (z22:Bool)=>cond z22 (some (.inr (.inl ()))) (some (.inl (x19.At,(IntKind.i64.wrap (s0_.2+1)))))) (some (.inr (.inr ())))
noncomputable def Jn (Xd:(Zc→Int→Option Bool)) (a0:Zc) (a1:Int) (s1_:(Int×Int)):Option ((Int×Int) ⊕ (Unit ⊕ Unit)) :=
 cond (decide (s1_.2 < (a0.Kids.length:Int))) ((Xj a0.Kids s1_.2).bind fun x35=>(cond (decide (x35.At≤s1_.1)) (some true) (cond (decide (65534 < x35.At)) (some true) (cond (x35.E.Kind == 0) (some true) ((Xd x35.E (IntKind.i64.wrap (a1 - 1))).bind fun y39=>some (cond (cond (cond (decide (x35.At≤s1_.1)) true (decide (65534 < x35.At))) true (x35.E.Kind == 0)) true (!y39)))))).bind fun (z37:Bool)=>cond z37 (some (.inr (.inl ()))) (some (.inl (x35.At,(IntKind.i64.wrap (s1_.2+1)))))) (some (.inr (.inr ())))
noncomputable def Qm (X6:(Int→Zl→Int→Option Bool)) (a0:Zc) (a1:Int) (s2_:Int):Option (Int ⊕ (Unit ⊕ Unit)) :=
 cond (decide (s2_ < (a0.Ops.length:Int))) ((Xj a0.Ops s2_).bind fun x48=>(X6 a0.List_ x48 (IntKind.i64.wrap (a1 - 1))).bind fun y49=>cond (!y49) (some (.inr (.inl ()))) (some (.inl (IntKind.i64.wrap (s2_+1))))) (some (.inr (.inr ())))
noncomputable def Uw (Xd:(Zc→Int→Option Bool)) (X6:(Int→Zl→Int→Option Bool)) (a0:Zc) (a1:Int):Option Bool :=
 cond (cond (cond (a1 == 0) true (decide (a0.Kind < 0))) true (decide (3 < a0.Kind))) (some false) ((cond (a0.Kind != 1) ((Jh a0.Old).bind fun y6=>cond y6 ((Jh a0.New).bind fun y7=>some (cond (cond (cond (a0.Kind != 1) (!(cond y6 y7 false)) false) true (cond (a0.Kind != 2) (decide (0 < (IntKind.i64.wrap ((a0.Words.length:Int)+(a0.Kids.length:Int))))) false)) true (cond (a0.Kind != 3) (cond (a0.List_ != 0) true (decide (0 < (a0.Ops.length:Int)))) false))) (some true)) (some (cond (cond (a0.Kind != 2) (decide (0 < (IntKind.i64.wrap ((a0.Words.length:Int)+(a0.Kids.length:Int))))) false) true (cond (a0.Kind != 3) (cond (a0.List_ != 0) true (decide (0 < (a0.Ops.length:Int)))) false)))).bind fun (z3:Bool)=>cond z3 (some false) (cond (a0.Kind == 1) (((K9 a0.Old 64).bind fun y15=>cond y15 ((K9 a0.New 64).bind fun y16=>some (cond (cond (cond y15 y16 false) (a0.Old.Kind != 10) false) (a0.New.Kind != 10) false)) (some false)).bind fun (z12:Bool)=>some z12) ((Zw (Jm a0) ((-1),0)).bind fun (z33:(Unit ⊕ Unit))=>match z33 with | .inl z33=>some false | .inr z33=>(Zw (Jn Xd a0 a1) ((-1),0)).bind fun (z45:(Unit ⊕ Unit))=>match z45 with | .inl z45=>some false | .inr z45=>cond (cond (a0.Kind == 3) (cond (decide (a0.List_ < 2)) true (decide (9 < a0.List_))) false) (some false) ((Zw (Qm X6 a0 a1) 0).bind fun (z52:(Unit ⊕ Unit))=>match z52 with | .inl z52=>some false | .inr z52=>(J5 a0).bind fun y54=>some (cond (decide (y54.1 < 1048576)) (decide (y54.2 < 1048576)) false)))))
noncomputable def Ux (a0:Int) (a1:Zl) (s0_:Int):Option (Int ⊕ (Unit ⊕ Unit)) :=
 cond (decide (s0_ < (a1.L.length:Int))) ((Zen a1.L s0_ (IntKind.i64.wrap (s0_+1))).bind fun l10=>(K9 (⟨a0,[],l10⟩:Zb) 64).bind fun y11=>cond (!y11) (some (.inr (.inl ()))) (some (.inl (IntKind.i64.wrap (s0_+1))))) (some (.inr (.inr ())))
noncomputable def Zbf (Xd:(Zc→Int→Option Bool)) (X6:(Int→Zl→Int→Option Bool)) (a0:Int) (a1:Zl) (a2:Int):Option Bool :=
 cond (a1.Kind == 0) ((cond (decide (1≤a1.N)) (cond (decide (a1.N≤1048576)) (cond ((a1.L.length:Int) == 0) ((Vx a1.E).bind fun y4=>some (cond (cond (cond (decide (1≤a1.N)) (decide (a1.N≤1048576)) false) ((a1.L.length:Int) == 0) false) y4 false)) (some false)) (some false)) (some false)).bind fun (z2:Bool)=>some z2) (cond (cond (cond (a1.N != 0) true (decide (a1.Kind < 0))) true (decide (3 < a1.Kind))) (some false) (cond (decide (a1.Kind < 3)) ((Zw (Ux a0 a1) 0).bind fun (z14:(Unit ⊕ Unit))=>match z14 with | .inl z14=>some false | .inr z14=>(cond (decide (0 < (a1.L.length:Int))) ((Vx a1.E).bind fun y18=>some (cond (decide (0 < (a1.L.length:Int))) y18 false)) (some false)).bind fun (z16:Bool)=>some z16) ((cond (decide (0 < (a1.L.length:Int))) (some true) (cond (a1.E.Kind == 0) (some true) (cond (decide (a0≤7)) (some true) ((Xd a1.E a2).bind fun y23=>some (cond (cond (cond (decide (0 < (a1.L.length:Int))) true (a1.E.Kind == 0)) true (decide (a0≤7))) true (!y23)))))).bind fun (z21:Bool)=>cond z21 (some false) (some (cond (cond (a0 == 8) true (a1.E.Kind == 2)) true (cond (cond (a1.E.Kind == 1) (a1.E.Old.Kind == 1) false) (a1.E.New.Kind == 1) false))))))
noncomputable def Yk:Nat→((Zc→Int→Option Bool)×(Int→Zl→Int→Option Bool))
 | 0=>((fun _ _=>none),(fun _ _ _=>none))
 | k+1=>(Uw ((Yk k).1) ((Yk k).2),Zbf ((Yk k).1) ((Yk k).2))
noncomputable def Zex (a0:Zc) (a1:Int):Option Bool:=lim fun k=>(Yk k).1 a0 a1
noncomputable def K2 (Xo:(Zc→Option Bool)) (a0:Zc) (s0_:Int):Option (Int ⊕ (Unit ⊕ Unit)) :=
 cond (decide (s0_ < (a0.Kids.length:Int))) ((Xj a0.Kids s0_).bind fun x6=>(Xo x6.E).bind fun y8=>cond (!y8) (some (.inr (.inl ()))) (some (.inl (IntKind.i64.wrap (s0_+1))))) (some (.inr (.inr ())))
noncomputable def K3 (Xo:(Zc→Option Bool)) (a0:Zc) (s1_:Int):Option (Int ⊕ (Unit ⊕ Unit)) :=
 cond (decide (s1_ < (a0.Ops.length:Int))) ((Xj a0.Ops s1_).bind fun x15=>(Xo x15.E).bind fun y17=>cond (!y17) (some (.inr (.inl ()))) (some (.inl (IntKind.i64.wrap (s1_+1))))) (some (.inr (.inr ())))
noncomputable def Uv (Xo:(Zc→Option Bool)) (a0:Zc):Option Bool :=
 (J5 a0).bind fun y2=>cond (cond (decide (2000 < y2.1)) true (decide (2000 < y2.2))) (some false) ((Zw (K2 Xo a0) 0).bind fun (z11:(Unit ⊕ Unit))=>match z11 with | .inl z11=>some false | .inr z11=>(Zw (K3 Xo a0) 0).bind fun (z20:(Unit ⊕ Unit))=>match z20 with | .inl z20=>some false | .inr z20=>some true)
noncomputable def Je:Nat→(Zc→Option Bool)
 | 0=>(fun _=>none)
 | k+1=>Uv ((Je k))
noncomputable def Zew (a0:Zc):Option Bool:=lim fun k=>(Je k) a0
noncomputable def Gy (a0:Zc):Option Bool :=
 ((Zas a0).bind fun y8=>cond y8 ((Zex a0 64).bind fun y9=>cond y9 ((Zew a0).bind fun y10=>some (cond (cond y8 y9 false) y10 false)) (some false)) (some false)).bind fun (z4:Bool)=>some z4
noncomputable def K0 (Xn:(Zc→Option Int)) (a0:Zc) (s0_:(Int×Int)):Option ((Int×Int) ⊕ Int) :=
 cond (decide (s0_.2 < (a0.Kids.length:Int))) ((Xj a0.Kids s0_.2).bind fun x1=>(Xn x1.E).bind fun y3=>some (.inl ((IntKind.i64.wrap (s0_.1+y3)),(IntKind.i64.wrap (s0_.2+1))))) (some (.inr s0_.1))
noncomputable def K1 (Xn:(Zc→Option Int)) (a0:Zc) (s1_:(Int×Int)):Option ((Int×Int) ⊕ Int) :=
 cond (decide (s1_.2 < (a0.Ops.length:Int))) (((Xj a0.Ops s1_.2).bind fun x9=>cond (x9.Kind == 3) ((Xj a0.Ops s1_.2).bind fun x11=>(Xn x11.E).bind fun y13=>some (IntKind.i64.wrap (s1_.1+y13))) (some s1_.1)).bind fun (z6:Int)=>some (.inl (z6,(IntKind.i64.wrap (s1_.2+1))))) (some (.inr s1_.1))
noncomputable def Uu (Xn:(Zc→Option Int)) (a0:Zc):Option Int :=
 (Zw (K0 Xn a0) ((IntKind.i64.wrap ((IntKind.i64.wrap (1+(a0.Words.length:Int)))+(a0.Ops.length:Int))),0)).bind fun (z5:Int)=>(Zw (K1 Xn a0) (z5,0)).bind fun (z16:Int)=>some z16
noncomputable def Jd:Nat→(Zc→Option Int)
 | 0=>(fun _=>none)
 | k+1=>Uu ((Jd k))
noncomputable def Zev (a0:Zc):Option Int:=lim fun k=>(Jd k) a0
noncomputable def Zar (a0:Zb):Option Bool :=
 (Qf a0 80 3000).bind fun y2=>some (decide (0≤y2))
noncomputable def Vv (a0:Zb):Option Bool :=
 ((Zar a0).bind fun y6=>cond y6 ((K9 a0 64).bind fun y7=>some (cond (cond y6 y7 false) (a0.Kind != 10) false)) (some false)).bind fun (z3:Bool)=>some z3
noncomputable def J4 (a0:Int):Option (List Zb) :=
 some ([(⟨10,([a0]:List Int),[]⟩:Zb)]:List Zb)
noncomputable def Ud (a0:(List Int)) (s0_:Int):Option (Int ⊕ Int) :=
 (cond (decide (0 < s0_)) ((Xj a0 (IntKind.i64.wrap (s0_ - 1))).bind fun x4=>some (cond (decide (0 < s0_)) (x4 == 0) false)) (some false)).bind fun (z2:Bool)=>cond z2 (some (.inl (IntKind.i64.wrap (s0_ - 1)))) (some (.inr s0_))
noncomputable def Vc (a0:(List Int)):Option (List Int) :=
 (Zw (Ud a0) (a0.length:Int)).bind fun (z7:Int)=>(Zen a0 0 z7).bind fun l9=>some l9
noncomputable def U6 (a0:(List Zb)) (s0_:Int):Option (Int ⊕ Int) :=
 (cond (decide (0 < s0_)) ((Xj a0 (IntKind.i64.wrap (s0_ - 1))).bind fun x6=>some (cond (decide (0 < s0_)) (x6.Kind == 0) false)) (some false)).bind fun (z3:Bool)=>cond z3 (some (.inl (IntKind.i64.wrap (s0_ - 1)))) (some (.inr s0_))
noncomputable def V7 (a0:(List Zb)):Option (List Zb) :=
 (Zw (U6 a0) (a0.length:Int)).bind fun (z10:Int)=>(Zen a0 0 z10).bind fun l12=>some l12
noncomputable def Zak (Za1:(Zb→Option Zb)) (z1:((List Int)×(List Zb))) (s0_:(Int×(List Zb))):Option ((Int×(List Zb)) ⊕ (List Zb)) :=
 cond (decide (s0_.1 < (z1.2.length:Int))) ((Xj z1.2 s0_.1).bind fun x9=>(Za1 x9).bind fun y10=>(Xj s0_.2 s0_.1).bind fun x11=>some (.inl ((IntKind.i64.wrap (s0_.1+1)),(Zgr s0_.2 s0_.1 y10)))) (some (.inr s0_.2))
noncomputable def Zg3 (Za1:(Zb→Option Zb)) (a0:Zb):Option Zb :=
 cond (a0.Kind == 0) (some (⟨0,[],[]⟩:Zb)) ((cond (a0.Kind == 1) ((Vc a0.Words).bind fun y2=>(V7 a0.Kids).bind fun y3=>some (y2,y3)) (some (a0.Words,a0.Kids))).bind fun (z1:((List Int)×(List Zb)))=>(cond (decide (0 < (z1.2.length:Int))) ((Zl5 56 (z1.2.length:Int) (⟨(0:Int),[],[]⟩:Zb)).bind fun l6=>some l6) (some ([]:List Zb))).bind fun (z5:(List Zb))=>(Zw (Zak Za1 z1) (0,z5)).bind fun (z14:(List Zb))=>some (⟨a0.Kind,z1.1,z14⟩:Zb))
noncomputable def Ui:Nat→(Zb→Option Zb)
 | 0=>(fun _=>none)
 | k+1=>Zg3 ((Ui k))
noncomputable def Zaz (a0:Zb):Option Zb:=lim fun k=>(Ui k) a0
noncomputable def Qn (a0:List Zr):Option (List Zr) :=
 Gc 32 ([]:List Zr) a0
structure Zv where
 out:(List Zl)
 kept:Int
 gone:(List Zb)
 come:(List Zb)
noncomputable def Xr (a0:Zv):Option Zv :=
 (cond (decide (0 < a0.kept)) ((Gc 240 a0.out ([(⟨0,0,[],⟨0,⟨0,[],[]⟩,⟨0,[],[]⟩,[],[],0,[]⟩⟩:Zl)]:List Zl)).bind fun l2=>(Xj l2 (a0.out.length:Int)).bind fun x3=>some (a0.out++[(⟨0,a0.kept,[],⟨0,⟨0,[],[]⟩,⟨0,[],[]⟩,[],[],0,[]⟩⟩:Zl)])) (some a0.out)).bind fun (z1:(List Zl))=>(cond (decide (0 < (a0.gone.length:Int))) ((Gc 240 z1 ([(⟨0,0,[],⟨0,⟨0,[],[]⟩,⟨0,[],[]⟩,[],[],0,[]⟩⟩:Zl)]:List Zl)).bind fun l9=>(Xj l9 (z1.length:Int)).bind fun x10=>some ((z1++[(⟨1,0,a0.gone,⟨0,⟨0,[],[]⟩,⟨0,[],[]⟩,[],[],0,[]⟩⟩:Zl)]),a0.gone)) (some (z1,a0.gone))).bind fun (z6:((List Zl)×(List Zb)))=>(cond (decide (0 < (a0.come.length:Int))) ((Gc 240 z6.1 ([(⟨0,0,[],⟨0,⟨0,[],[]⟩,⟨0,[],[]⟩,[],[],0,[]⟩⟩:Zl)]:List Zl)).bind fun l16=>(Xj l16 (z6.1.length:Int)).bind fun x17=>some ((z6.1++[(⟨2,0,a0.come,⟨0,⟨0,[],[]⟩,⟨0,[],[]⟩,[],[],0,[]⟩⟩:Zl)]),a0.come)) (some (z6.1,a0.come))).bind fun (z13:((List Zl)×(List Zb)))=>some (⟨z13.1,0,[],[]⟩:Zv)
noncomputable def J8 (a0:Zv) (a1:Int):Option Zv :=
 (cond (a0.kept == 0) ((Xr (⟨a0.out,a0.kept,a0.gone,a0.come⟩:Zv)).bind fun y2=>some (y2.out,y2.gone,y2.come,y2.kept)) (some (a0.out,a0.gone,a0.come,a0.kept))).bind fun (z1:((List Zl)×(List Zb)×(List Zb)×Int))=>some (⟨z1.1,(IntKind.i64.wrap (z1.2.2.2+a1)),z1.2.1,z1.2.2.1⟩:Zv)
noncomputable def Qr (a2:(List Zb)) (s0_:(Int×(List Zb))):Option ((Int×(List Zb)) ⊕ (List Zb)) :=
 cond (decide (s0_.1 < (a2.length:Int))) ((Xj a2 s0_.1).bind fun x5=>(Zaz x5).bind fun y6=>(Gc 56 s0_.2 ([(⟨0,[],[]⟩:Zb)]:List Zb)).bind fun l7=>(Xj l7 (s0_.2.length:Int)).bind fun x8=>some (.inl ((IntKind.i64.wrap (s0_.1+1)),(s0_.2++[y6])))) (some (.inr s0_.2))
noncomputable def Js (a0:Zv) (a2:(List Zb)):Option Zv :=
 (cond (decide (0 < a0.kept)) ((Xr (⟨a0.out,a0.kept,a0.gone,a0.come⟩:Zv)).bind fun y2=>some (y2.out,y2.gone,y2.come,y2.kept)) (some (a0.out,a0.gone,a0.come,a0.kept))).bind fun (z1:((List Zl)×(List Zb)×(List Zb)×Int))=>(Zw (Qr a2) (0,z1.2.1)).bind fun (z11:(List Zb))=>some (⟨z1.1,z1.2.2.2,z11,z1.2.2.1⟩:Zv)
noncomputable def Qs (a2:(List Zb)) (s0_:(Int×(List Zb))):Option ((Int×(List Zb)) ⊕ (List Zb)) :=
 cond (decide (s0_.1 < (a2.length:Int))) ((Xj a2 s0_.1).bind fun x5=>(Zaz x5).bind fun y6=>(Gc 56 s0_.2 ([(⟨0,[],[]⟩:Zb)]:List Zb)).bind fun l7=>(Xj l7 (s0_.2.length:Int)).bind fun x8=>some (.inl ((IntKind.i64.wrap (s0_.1+1)),(s0_.2++[y6])))) (some (.inr s0_.2))
noncomputable def Jt (a0:Zv) (a2:(List Zb)):Option Zv :=
 (cond (decide (0 < a0.kept)) ((Xr (⟨a0.out,a0.kept,a0.gone,a0.come⟩:Zv)).bind fun y2=>some (y2.out,y2.gone,y2.come,y2.kept)) (some (a0.out,a0.gone,a0.come,a0.kept))).bind fun (z1:((List Zl)×(List Zb)×(List Zb)×Int))=>(Zw (Qs a2) (0,z1.2.2.1)).bind fun (z11:(List Zb))=>some (⟨z1.1,z1.2.2.2,z1.2.1,z11⟩:Zv)
noncomputable def Zel (a0:Int) (a1:Zc):Option Bool :=
 some (cond (a1.Kind == 0) true (cond (cond (a0 == 9) (a1.Kind == 2) false) ((IntKind.i64.wrap ((a1.Words.length:Int)+(a1.Kids.length:Int))) == 0) false))
noncomputable def J7 (a0:Zv) (a1:Int) (a2:Zc):Option Zv :=
 (Zel a1 a2).bind fun y2=>cond y2 ((J8 (⟨a0.out,a0.kept,a0.gone,a0.come⟩:Zv) 1).bind fun y4=>some (⟨y4.out,y4.kept,y4.gone,y4.come⟩:Zv)) ((Xr (⟨a0.out,a0.kept,a0.gone,a0.come⟩:Zv)).bind fun y6=>(Gc 240 y6.out ([(⟨0,0,[],⟨0,⟨0,[],[]⟩,⟨0,[],[]⟩,[],[],0,[]⟩⟩:Zl)]:List Zl)).bind fun l7=>(Xj l7 (y6.out.length:Int)).bind fun x8=>some (⟨(y6.out++[(⟨3,0,[],a2⟩:Zl)]),y6.kept,y6.gone,y6.come⟩:Zv))
noncomputable def Zaj (Xz:(Zc→Option Zc)) (a0:Zc) (s0_:(Int×(List Zm))):Option ((Int×(List Zm)) ⊕ (List Zm)) :=
 cond (decide (s0_.1 < (a0.Kids.length:Int))) ((Xj a0.Kids s0_.1).bind fun x8=>(Xz x8.E).bind fun y9=>(Gc 208 s0_.2 ([(⟨x8.At,y9⟩:Zm)]:List Zm)).bind fun l10=>some (.inl ((IntKind.i64.wrap (s0_.1+1)),l10))) (some (.inr s0_.2))
noncomputable def Zeh (Xz:(Zc→Option Zc)) (Ve:(Int→(List Zl)→Option (List Zl))) (a0:Zc):Option Zc :=
 cond (a0.Kind == 1) ((Zaz a0.Old).bind fun y3=>(Zaz a0.New).bind fun y4=>some (⟨1,y3,y4,[],[],0,[]⟩:Zc)) (cond (a0.Kind == 2) ((Qn a0.Words).bind fun y6=>(Zw (Zaj Xz a0) (0,([]:List Zm))).bind fun (z12:(List Zm))=>some (⟨2,⟨0,[],[]⟩,⟨0,[],[]⟩,y6,z12,0,[]⟩:Zc)) (cond (a0.Kind == 3) ((Ve a0.List_ a0.Ops).bind fun y14=>some (⟨3,⟨0,[],[]⟩,⟨0,[],[]⟩,[],[],a0.List_,y14⟩:Zc)) (some (⟨0,⟨0,[],[]⟩,⟨0,[],[]⟩,[],[],0,[]⟩:Zc))))
noncomputable def V3 (Xz:(Zc→Option Zc)) (a0:Int) (a1:(List Zl)) (s0_:(Int×Int×(List Zl)×(List Zb)×(List Zb))):Option ((Int×Int×(List Zl)×(List Zb)×(List Zb)) ⊕ (Int×(List Zl)×(List Zb)×(List Zb))) :=
 cond (decide (s0_.1 < (a1.length:Int))) (((Xj a1 s0_.1).bind fun x3=>cond (x3.Kind == 0) ((J8 (⟨s0_.2.2.1,s0_.2.1,s0_.2.2.2.1,s0_.2.2.2.2⟩:Zv) x3.N).bind fun y4=>some (y4.kept,y4.out,y4.gone,y4.come)) (cond (x3.Kind == 1) ((Js (⟨s0_.2.2.1,s0_.2.1,s0_.2.2.2.1,s0_.2.2.2.2⟩:Zv) x3.L).bind fun y5=>some (y5.kept,y5.out,y5.gone,y5.come)) (cond (x3.Kind == 2) ((Jt (⟨s0_.2.2.1,s0_.2.1,s0_.2.2.2.1,s0_.2.2.2.2⟩:Zv) x3.L).bind fun y6=>some (y6.kept,y6.out,y6.gone,y6.come)) (cond (x3.Kind == 3) ((Xz x3.E).bind fun y7=>(J7 (⟨s0_.2.2.1,s0_.2.1,s0_.2.2.2.1,s0_.2.2.2.2⟩:Zv) a0 y7).bind fun y8=>some (y8.kept,y8.out,y8.gone,y8.come)) (some (s0_.2.1,s0_.2.2.1,s0_.2.2.2.1,s0_.2.2.2.2)))))).bind fun (z1:(Int×(List Zl)×(List Zb)×(List Zb)))=>some (.inl ((IntKind.i64.wrap (s0_.1+1)),z1.1,z1.2.1,z1.2.2.1,z1.2.2.2))) (some (.inr (s0_.2.1,s0_.2.2.1,s0_.2.2.2.1,s0_.2.2.2.2)))
noncomputable def Zdp (Xz:(Zc→Option Zc)) (Ve:(Int→(List Zl)→Option (List Zl))) (a0:Int) (a1:(List Zl)):Option (List Zl) :=
 (Zw (V3 Xz a0 a1) (0,0,([]:List Zl),([]:List Zb),([]:List Zb))).bind fun (z14:(Int×(List Zl)×(List Zb)×(List Zb)))=>(Xr (⟨z14.2.1,z14.1,z14.2.2.1,z14.2.2.2⟩:Zv)).bind fun y16=>some y16.out
noncomputable def Xv:Nat→((Zc→Option Zc)×(Int→(List Zl)→Option (List Zl)))
 | 0=>((fun _=>none),(fun _ _=>none))
 | k+1=>(Zeh ((Xv k).1) ((Xv k).2),Zdp ((Xv k).1) ((Xv k).2))
noncomputable def Zbr (a0:Zc):Option Zc:=lim fun k=>(Xv k).1 a0
noncomputable def Zau (a0:Zl):Option Int :=
 cond (a0.Kind == 0) (some (if 1048576 < (if a0.N < 0 then 0 else a0.N) then 1048576 else (if a0.N < 0 then 0 else a0.N))) ((cond (a0.Kind == 1) (some (a0.Kind == 1)) (some (a0.Kind == 2))).bind fun (z1:Bool)=>cond z1 (some (a0.L.length:Int)) (cond (a0.Kind == 3) (some 1) (some 0)))
noncomputable def Gz (a0:Zc) (s0_:(Int×Int×Int)):Option ((Int×Int×Int) ⊕ (Int×Int)) :=
 cond (decide (s0_.2.2 < (a0.Ops.length:Int))) (((Xj a0.Ops s0_.2.2).bind fun x3=>(cond (x3.Kind != 2) ((Zau x3).bind fun y5=>some (if 1048576 < (IntKind.i64.wrap (s0_.1+y5)) then 1048576 else (IntKind.i64.wrap (s0_.1+y5)))) (some s0_.1)).bind fun (z4:Int)=>cond (x3.Kind != 1) ((Zau x3).bind fun y7=>some (z4,(if 1048576 < (IntKind.i64.wrap (s0_.2.1+y7)) then 1048576 else (IntKind.i64.wrap (s0_.2.1+y7))))) (some (z4,s0_.2.1))).bind fun (z1:(Int×Int))=>some (.inl (z1.1,z1.2,(IntKind.i64.wrap (s0_.2.2+1))))) (some (.inr (s0_.1,s0_.2.1)))
noncomputable def Vn (a0:Zc):Option (Int×Int) :=
 (Zw (Gz a0) (0,0,0)).bind fun (z10:(Int×Int))=>some (z10.1,z10.2)
noncomputable def Va (a0:(List Zl)) (a1:Int):Option (List Zl) :=
 cond (decide (a1≤0)) (some a0) ((Gc 240 a0 ([(⟨0,a1,[],⟨0,⟨0,[],[]⟩,⟨0,[],[]⟩,[],[],0,[]⟩⟩:Zl)]:List Zl)).bind fun l2=>some l2)
noncomputable def Vb (a0:Zl) (a1:Int) (a2:(List Zc)) (a3:Zc) (a4:Int):Option (Int×(List Zc)×Zc×Int) :=
 (Va ([]:(List Zl)) a1).bind fun y2=>(Gc 240 y2 ([a0]:List Zl)).bind fun l4=>(Va l4 a4).bind fun y5=>(Gc 200 a2 ([(⟨3,⟨0,[],[]⟩,⟨0,[],[]⟩,[],[],a3.List_,y5⟩:Zc)]:List Zc)).bind fun l6=>some (a1,l6,a3,a4)
noncomputable def G8 (Xf:(Zc→Option (List Zc))) (Xi:(Zc→Option (List Zc))) (Xx:(Zc→Option (List Zc))) (a0:Zc):Option (List Zc) :=
 (cond (a0.Kind == 0) (some (.inr ())) (cond (a0.Kind == 2) ((Xi a0).bind fun y2=>some (.inl y2)) (cond (a0.Kind == 3) ((Xx a0).bind fun y3=>some (.inl y3)) (some (.inl ([]:(List Zc))))))).bind fun (z1:((List Zc) ⊕ Unit))=>match z1 with | .inl z1=>cond ((z1.length:Int) == 0) (some ([a0]:List Zc)) (some z1) | .inr z1=>some ([]:(List Zc))
noncomputable def Ua (a0:Zc) (s0_:(Int×(List Zc))):Option ((Int×(List Zc)) ⊕ (List Zc)) :=
 cond (decide (s0_.1 < (a0.Words.length:Int))) ((Xj a0.Words s0_.1).bind fun x2=>(Gc 200 s0_.2 ([(⟨2,⟨0,[],[]⟩,⟨0,[],[]⟩,([x2]:List Zr),[],0,[]⟩:Zc)]:List Zc)).bind fun l3=>some (.inl ((IntKind.i64.wrap (s0_.1+1)),l3))) (some (.inr s0_.2))
noncomputable def Ub (x7:Zm) (y9:(List Zc)) (s2_:(Int×(List Zc))):Option ((Int×(List Zc)) ⊕ (List Zc)) :=
 cond (decide (s2_.1 < (y9.length:Int))) ((Xj y9 s2_.1).bind fun x11=>(Gc 200 s2_.2 ([(⟨2,⟨0,[],[]⟩,⟨0,[],[]⟩,[],([(⟨x7.At,x11⟩:Zm)]:List Zm),0,[]⟩:Zc)]:List Zc)).bind fun l12=>some (.inl ((IntKind.i64.wrap (s2_.1+1)),l12))) (some (.inr s2_.2))
noncomputable def Kp (Xf:(Zc→Option (List Zc))) (a0:Zc) (s1_:(Int×(List Zc))):Option ((Int×(List Zc)) ⊕ (List Zc)) :=
 cond (decide (s1_.1 < (a0.Kids.length:Int))) ((Xj a0.Kids s1_.1).bind fun x7=>(Xf x7.E).bind fun y9=>(Zw (Ub x7 y9) (0,s1_.2)).bind fun (z14:(List Zc))=>some (.inl ((IntKind.i64.wrap (s1_.1+1)),z14))) (some (.inr s1_.2))
noncomputable def Us (Xf:(Zc→Option (List Zc))) (Xi:(Zc→Option (List Zc))) (Xx:(Zc→Option (List Zc))) (a0:Zc):Option (List Zc) :=
 (Zw (Ua a0) (0,([]:List Zc))).bind fun (z5:(List Zc))=>(Zw (Kp Xf a0) (0,z5)).bind fun (z16:(List Zc))=>some z16
noncomputable def Vt (y10:(List Zc)) (s1_:(Int×Int×Int×(List Int)×(List Zb)×Int×(List Int)×(List Zb)×(List Zr)×(List Zm)×Int×(List Zl)×Int×Int×(List Zc))):Option ((Int×Int×Int×(List Int)×(List Zb)×Int×(List Int)×(List Zb)×(List Zr)×(List Zm)×Int×(List Zl)×Int×Int×(List Zc)) ⊕ (Int×Int×(List Int)×(List Zb)×Int×(List Int)×(List Zb)×(List Zr)×(List Zm)×Int×(List Zl)×Int×Int×(List Zc))) :=
 cond (decide (s1_.1 < (y10.length:Int))) ((Xj y10 s1_.1).bind fun x12=>(Vb (⟨3,0,[],x12⟩:Zl) s1_.2.2.2.2.2.2.2.2.2.2.2.2.1 s1_.2.2.2.2.2.2.2.2.2.2.2.2.2.2 (⟨s1_.2.1,⟨s1_.2.2.1,s1_.2.2.2.1,s1_.2.2.2.2.1⟩,⟨s1_.2.2.2.2.2.1,s1_.2.2.2.2.2.2.1,s1_.2.2.2.2.2.2.2.1⟩,s1_.2.2.2.2.2.2.2.2.1,s1_.2.2.2.2.2.2.2.2.2.1,s1_.2.2.2.2.2.2.2.2.2.2.1,s1_.2.2.2.2.2.2.2.2.2.2.2.1⟩:Zc) s1_.2.2.2.2.2.2.2.2.2.2.2.2.2.1).bind fun y13=>some (.inl ((IntKind.i64.wrap (s1_.1+1)),y13.2.2.1.Kind,y13.2.2.1.Old.Kind,y13.2.2.1.Old.Words,y13.2.2.1.Old.Kids,y13.2.2.1.New.Kind,y13.2.2.1.New.Words,y13.2.2.1.New.Kids,y13.2.2.1.Words,y13.2.2.1.Kids,y13.2.2.1.List_,y13.2.2.1.Ops,y13.1,y13.2.2.2,y13.2.1))) (some (.inr (s1_.2.1,s1_.2.2.1,s1_.2.2.2.1,s1_.2.2.2.2.1,s1_.2.2.2.2.2.1,s1_.2.2.2.2.2.2.1,s1_.2.2.2.2.2.2.2.1,s1_.2.2.2.2.2.2.2.2.1,s1_.2.2.2.2.2.2.2.2.2.1,s1_.2.2.2.2.2.2.2.2.2.2.1,s1_.2.2.2.2.2.2.2.2.2.2.2.1,s1_.2.2.2.2.2.2.2.2.2.2.2.2.1,s1_.2.2.2.2.2.2.2.2.2.2.2.2.2.1,s1_.2.2.2.2.2.2.2.2.2.2.2.2.2.2)))
noncomputable def Vs (Xf:(Zc→Option (List Zc))) (a0:Zc) (s0_:(Int×Int×Int×(List Int)×(List Zb)×Int×(List Int)×(List Zb)×(List Zr)×(List Zm)×Int×(List Zl)×Int×Int×(List Zc))):Option ((Int×Int×Int×(List Int)×(List Zb)×Int×(List Int)×(List Zb)×(List Zr)×(List Zm)×Int×(List Zl)×Int×Int×(List Zc)) ⊕ (List Zc)) :=
 cond (decide (s0_.1 < (a0.Ops.length:Int))) (((Xj a0.Ops s0_.1).bind fun x5=>cond (x5.Kind == 0) (some (s0_.2.1,s0_.2.2.1,s0_.2.2.2.1,s0_.2.2.2.2.1,s0_.2.2.2.2.2.1,s0_.2.2.2.2.2.2.1,s0_.2.2.2.2.2.2.2.1,s0_.2.2.2.2.2.2.2.2.1,s0_.2.2.2.2.2.2.2.2.2.1,s0_.2.2.2.2.2.2.2.2.2.2.1,s0_.2.2.2.2.2.2.2.2.2.2.2.1,(IntKind.i64.wrap (s0_.2.2.2.2.2.2.2.2.2.2.2.2.1+x5.N)),(IntKind.i64.wrap (s0_.2.2.2.2.2.2.2.2.2.2.2.2.2.1 - x5.N)),s0_.2.2.2.2.2.2.2.2.2.2.2.2.2.2)) (cond (x5.Kind == 1) ((Vb x5 s0_.2.2.2.2.2.2.2.2.2.2.2.2.1 s0_.2.2.2.2.2.2.2.2.2.2.2.2.2.2 (⟨s0_.2.1,⟨s0_.2.2.1,s0_.2.2.2.1,s0_.2.2.2.2.1⟩,⟨s0_.2.2.2.2.2.1,s0_.2.2.2.2.2.2.1,s0_.2.2.2.2.2.2.2.1⟩,s0_.2.2.2.2.2.2.2.2.1,s0_.2.2.2.2.2.2.2.2.2.1,s0_.2.2.2.2.2.2.2.2.2.2.1,s0_.2.2.2.2.2.2.2.2.2.2.2.1⟩:Zc) (IntKind.i64.wrap (s0_.2.2.2.2.2.2.2.2.2.2.2.2.2.1 - (x5.L.length:Int)))).bind fun y6=>some (y6.2.2.1.Kind,y6.2.2.1.Old.Kind,y6.2.2.1.Old.Words,y6.2.2.1.Old.Kids,y6.2.2.1.New.Kind,y6.2.2.1.New.Words,y6.2.2.1.New.Kids,y6.2.2.1.Words,y6.2.2.1.Kids,y6.2.2.1.List_,y6.2.2.1.Ops,y6.1,y6.2.2.2,y6.2.1)) (cond (x5.Kind == 2) ((Vb x5 s0_.2.2.2.2.2.2.2.2.2.2.2.2.1 s0_.2.2.2.2.2.2.2.2.2.2.2.2.2.2 (⟨s0_.2.1,⟨s0_.2.2.1,s0_.2.2.2.1,s0_.2.2.2.2.1⟩,⟨s0_.2.2.2.2.2.1,s0_.2.2.2.2.2.2.1,s0_.2.2.2.2.2.2.2.1⟩,s0_.2.2.2.2.2.2.2.2.1,s0_.2.2.2.2.2.2.2.2.2.1,s0_.2.2.2.2.2.2.2.2.2.2.1,s0_.2.2.2.2.2.2.2.2.2.2.2.1⟩:Zc) s0_.2.2.2.2.2.2.2.2.2.2.2.2.2.1).bind fun y8=>some (y8.2.2.1.Kind,y8.2.2.1.Old.Kind,y8.2.2.1.Old.Words,y8.2.2.1.Old.Kids,y8.2.2.1.New.Kind,y8.2.2.1.New.Words,y8.2.2.1.New.Kids,y8.2.2.1.Words,y8.2.2.1.Kids,y8.2.2.1.List_,y8.2.2.1.Ops,(IntKind.i64.wrap (y8.1+(x5.L.length:Int))),y8.2.2.2,y8.2.1)) (cond (x5.Kind == 3) ((Xf x5.E).bind fun y10=>(Zw (Vt y10) (0,s0_.2.1,s0_.2.2.1,s0_.2.2.2.1,s0_.2.2.2.2.1,s0_.2.2.2.2.2.1,s0_.2.2.2.2.2.2.1,s0_.2.2.2.2.2.2.2.1,s0_.2.2.2.2.2.2.2.2.1,s0_.2.2.2.2.2.2.2.2.2.1,s0_.2.2.2.2.2.2.2.2.2.2.1,s0_.2.2.2.2.2.2.2.2.2.2.2.1,s0_.2.2.2.2.2.2.2.2.2.2.2.2.1,(IntKind.i64.wrap (s0_.2.2.2.2.2.2.2.2.2.2.2.2.2.1 - 1)),s0_.2.2.2.2.2.2.2.2.2.2.2.2.2.2)).bind fun (z15:(Int×Int×(List Int)×(List Zb)×Int×(List Int)×(List Zb)×(List Zr)×(List Zm)×Int×(List Zl)×Int×Int×(List Zc)))=>some (z15.1,z15.2.1,z15.2.2.1,z15.2.2.2.1,z15.2.2.2.2.1,z15.2.2.2.2.2.1,z15.2.2.2.2.2.2.1,z15.2.2.2.2.2.2.2.1,z15.2.2.2.2.2.2.2.2.1,z15.2.2.2.2.2.2.2.2.2.1,z15.2.2.2.2.2.2.2.2.2.2.1,(IntKind.i64.wrap (z15.2.2.2.2.2.2.2.2.2.2.2.1+1)),z15.2.2.2.2.2.2.2.2.2.2.2.2.1,z15.2.2.2.2.2.2.2.2.2.2.2.2.2)) (some (s0_.2.1,s0_.2.2.1,s0_.2.2.2.1,s0_.2.2.2.2.1,s0_.2.2.2.2.2.1,s0_.2.2.2.2.2.2.1,s0_.2.2.2.2.2.2.2.1,s0_.2.2.2.2.2.2.2.2.1,s0_.2.2.2.2.2.2.2.2.2.1,s0_.2.2.2.2.2.2.2.2.2.2.1,s0_.2.2.2.2.2.2.2.2.2.2.2.1,s0_.2.2.2.2.2.2.2.2.2.2.2.2.1,s0_.2.2.2.2.2.2.2.2.2.2.2.2.2.1,s0_.2.2.2.2.2.2.2.2.2.2.2.2.2.2)))))).bind fun (z3:(Int×Int×(List Int)×(List Zb)×Int×(List Int)×(List Zb)×(List Zr)×(List Zm)×Int×(List Zl)×Int×Int×(List Zc)))=>some (.inl ((IntKind.i64.wrap (s0_.1+1)),z3.1,z3.2.1,z3.2.2.1,z3.2.2.2.1,z3.2.2.2.2.1,z3.2.2.2.2.2.1,z3.2.2.2.2.2.2.1,z3.2.2.2.2.2.2.2.1,z3.2.2.2.2.2.2.2.2.1,z3.2.2.2.2.2.2.2.2.2.1,z3.2.2.2.2.2.2.2.2.2.2.1,z3.2.2.2.2.2.2.2.2.2.2.2.1,z3.2.2.2.2.2.2.2.2.2.2.2.2.1,z3.2.2.2.2.2.2.2.2.2.2.2.2.2))) (some (.inr s0_.2.2.2.2.2.2.2.2.2.2.2.2.2.2))
noncomputable def Uy (Xf:(Zc→Option (List Zc))) (Xi:(Zc→Option (List Zc))) (Xx:(Zc→Option (List Zc))) (a0:Zc):Option (List Zc) :=
 (Vn a0).bind fun y2=>(Zw (Vs Xf a0) (0,a0.Kind,a0.Old.Kind,a0.Old.Words,a0.Old.Kids,a0.New.Kind,a0.New.Words,a0.New.Kids,a0.Words,a0.Kids,a0.List_,a0.Ops,0,y2.1,([]:List Zc))).bind fun (z21:(List Zc))=>some z21
noncomputable def Z3:Nat→((Zc→Option (List Zc))×(Zc→Option (List Zc))×(Zc→Option (List Zc)))
 | 0=>((fun _=>none),(fun _=>none),(fun _=>none))
 | k+1=>(G8 ((Z3 k).1) ((Z3 k).2.1) ((Z3 k).2.2),Us ((Z3 k).1) ((Z3 k).2.1) ((Z3 k).2.2),Uy ((Z3 k).1) ((Z3 k).2.1) ((Z3 k).2.2))
noncomputable def Zg2 (a0:Zc):Option (List Zc):=lim fun k=>(Z3 k).1 a0
noncomputable def Uo (a0:Zc):Option (List Zc) :=
 (Zbr a0).bind fun y3=>(Zg2 y3).bind fun y4=>some y4
noncomputable def Zks (a0:Zl):Option Int :=
 cond (a0.Kind == 0) (some a0.N) ((cond (a0.Kind == 1) (some (a0.Kind == 1)) (some (a0.Kind == 2))).bind fun (z1:Bool)=>cond z1 (some (a0.L.length:Int)) (some 1))
structure Yh where
 left:(List Zl)
 gone:Int
noncomputable def Za6 (s0_:((List Zl)×Int)):Option (((List Zl)×Int) ⊕ ((Int×Int×(List Zl)×Int) ⊕ ((List Zl)×Int))) :=
 cond (decide (0 < (s0_.1.length:Int))) ((Xj s0_.1 0).bind fun x3=>(Zks x3).bind fun y4=>cond (decide (0 < (IntKind.i64.wrap (y4 - s0_.2)))) ((Xj s0_.1 0).bind fun x7=>some (.inr (.inl (x7.Kind,(IntKind.i64.wrap (y4 - s0_.2)),s0_.1,s0_.2)))) ((Zen s0_.1 1 (s0_.1.length:Int)).bind fun l9=>some (.inl (l9,0)))) (some (.inr (.inr (s0_.1,s0_.2))))
noncomputable def Kq (a0:Yh):Option (Int×Int×Yh) :=
 (Zw (Za6) (a0.left,a0.gone)).bind fun (z12:((Int×Int×(List Zl)×Int) ⊕ ((List Zl)×Int)))=>match z12 with | .inl z12=>some (z12.1,z12.2.1,(⟨z12.2.2.1,z12.2.2.2⟩:Yh)) | .inr z12=>some (0,0,(⟨z12.1,z12.2⟩:Yh))
noncomputable def Kr (a0:Yh) (a1:Int):Option (Zl×Yh) :=
 (Xj a0.left 0).bind fun x2=>(cond (x2.Kind == 0) (some (a1,x2.L)) ((cond (x2.Kind == 1) (some (x2.Kind == 1)) (some (x2.Kind == 2))).bind fun (z4:Bool)=>cond z4 ((Zen x2.L a0.gone (IntKind.i64.wrap (a0.gone+a1))).bind fun l6=>some (x2.N,l6)) (some (x2.N,x2.L)))).bind fun (z3:(Int×(List Zb)))=>some ((⟨x2.Kind,z3.1,z3.2,x2.E⟩:Zl),(⟨a0.left,(IntKind.i64.wrap (a0.gone+a1))⟩:Yh))
structure Z4 where
 Of:Int
 P:Zl
 Q:Zl
noncomputable def Vu (a2:Int) (a3:Int) (s0_:((List Zl)×Int×(List Zl)×Int×(List Z4))):Option (((List Zl)×Int×(List Zl)×Int×(List Z4)) ⊕ ((List Z4)×Bool)) :=
 (Kq (⟨s0_.1,s0_.2.1⟩:Yh)).bind fun y2=>(Kq (⟨s0_.2.2.1,s0_.2.2.2.1⟩:Yh)).bind fun y4=>cond (cond (decide (0 < y2.2.1)) (y2.1 == a2) false) ((Kr y2.2.2 y2.2.1).bind fun y5=>(Gc 488 s0_.2.2.2.2 ([(⟨1,y5.1,⟨0,0,[],⟨0,⟨0,[],[]⟩,⟨0,[],[]⟩,[],[],0,[]⟩⟩⟩:Z4)]:List Z4)).bind fun l6=>some (.inl (y5.2.left,y5.2.gone,y4.2.2.left,y4.2.2.gone,l6))) (cond (cond (decide (0 < y4.2.1)) (y4.1 == a3) false) ((Kr y4.2.2 y4.2.1).bind fun y7=>(Gc 488 s0_.2.2.2.2 ([(⟨2,⟨0,0,[],⟨0,⟨0,[],[]⟩,⟨0,[],[]⟩,[],[],0,[]⟩⟩,y7.1⟩:Z4)]:List Z4)).bind fun l8=>some (.inl (y2.2.2.left,y2.2.2.gone,y7.2.left,y7.2.gone,l8))) (cond (cond (y2.2.1 == 0) (y4.2.1 == 0) false) (some (.inr (s0_.2.2.2.2,true))) (cond (cond (y2.2.1 == 0) true (y4.2.1 == 0)) (some (.inr (([]:(List Z4)),false))) ((Kr y2.2.2 (if y4.2.1 < y2.2.1 then y4.2.1 else y2.2.1)).bind fun y9=>(Kr y4.2.2 (if y4.2.1 < y2.2.1 then y4.2.1 else y2.2.1)).bind fun y10=>(Gc 488 s0_.2.2.2.2 ([(⟨0,y9.1,y10.1⟩:Z4)]:List Z4)).bind fun l11=>some (.inl (y9.2.left,y9.2.gone,y10.2.left,y10.2.gone,l11))))))
noncomputable def Zfg (a0:(List Zl)) (a1:(List Zl)) (a2:Int) (a3:Int):Option ((List Z4)×Bool) :=
 (Zw (Vu a2 a3) (a0,0,a1,0,([]:List Z4))).bind fun (z16:((List Z4)×Bool))=>some (z16.1,z16.2)
noncomputable def Zco (a0:(List Zl)) (a1:(List Zl)):Option ((List Z4)×Bool) :=
 (Zfg a0 a1 1 2).bind fun y2=>some (y2.1,y2.2)
noncomputable def Zhq (a0:Z4):Option ((List Zl)×Bool) :=
 cond (cond (a0.Of == 1) true (cond (a0.Of == 0) (a0.Q.Kind == 0) false)) (some (([a0.P]:List Zl),true)) (cond (cond (a0.Of == 2) true (a0.P.Kind == 0)) (some (([a0.Q]:List Zl),true)) (cond (cond (a0.P.Kind == 2) (a0.Q.Kind == 1) false) (none) (cond (a0.P.Kind == 2) ((Xj a0.P.L 0).bind fun x2=>none) (cond (a0.Q.Kind == 1) (none) (none)))))
noncomputable def Zif (y2:((List Z4)×Bool)) (s0_:(Int×(List Zl))):Option ((Int×(List Zl)) ⊕ (Unit ⊕ (List Zl))) :=
 cond (decide (s0_.1 < (y2.1.length:Int))) ((Xj y2.1 s0_.1).bind fun x4=>(Zhq x4).bind fun y6=>cond (!y6.2) (some (.inr (.inl ()))) ((Gc 240 s0_.2 y6.1).bind fun l7=>some (.inl ((IntKind.i64.wrap (s0_.1+1)),l7)))) (some (.inr (.inr s0_.2)))
noncomputable def Zbh (a0:Zc) (a1:Zc):Option (Zc×Bool) :=
 (Zco a0.Ops a1.Ops).bind fun y2=>cond (!y2.2) (some ((⟨0,⟨0,[],[]⟩,⟨0,[],[]⟩,[],[],0,[]⟩:Zc),false)) ((Zw (Zif y2) (0,([]:List Zl))).bind fun (z10:(Unit ⊕ (List Zl)))=>match z10 with | .inl z10=>some ((⟨0,⟨0,[],[]⟩,⟨0,[],[]⟩,[],[],0,[]⟩:Zc),false) | .inr z10=>some ((⟨3,⟨0,[],[]⟩,⟨0,[],[]⟩,[],[],a0.List_,z10⟩:Zc),true))
noncomputable def Zat (a0:Zc) (a1:Zc):Option (Zc×Bool) :=
 cond (a0.Kind == 0) (some (a1,true)) (cond (a1.Kind == 0) (some (a0,true)) (cond (a0.Kind == 1) (none) (cond (a1.Kind == 1) (none) (cond (cond (a0.Kind == 2) (a1.Kind == 2) false) (none) (cond (cond (cond (a0.Kind == 3) (a1.Kind == 3) false) (a0.List_ == a1.List_) false) ((Zbh a0 a1).bind fun y2=>some (y2.1,y2.2)) (some ((⟨0,⟨0,[],[]⟩,⟨0,[],[]⟩,[],[],0,[]⟩:Zc),false)))))))
noncomputable def U5 (a0:Zc) (a1:Zc):Option (Zc×Bool) :=
 (Zat a0 a1).bind fun y2=>cond (!y2.2) (some ((⟨0,⟨0,[],[]⟩,⟨0,[],[]⟩,[],[],0,[]⟩:Zc),false)) ((Zbr y2.1).bind fun y4=>some (y4,true))
noncomputable def V6 (a0:(List Zc)) (s0_:(Int×Int×Int×(List Int)×(List Zb)×Int×(List Int)×(List Zb)×(List Zr)×(List Zm)×Int×(List Zl))):Option ((Int×Int×Int×(List Int)×(List Zb)×Int×(List Int)×(List Zb)×(List Zr)×(List Zm)×Int×(List Zl)) ⊕ (Unit ⊕ (Int×Int×(List Int)×(List Zb)×Int×(List Int)×(List Zb)×(List Zr)×(List Zm)×Int×(List Zl)))) :=
 cond (decide (s0_.1 < (a0.length:Int))) ((Xj a0 s0_.1).bind fun x2=>(U5 (⟨s0_.2.1,⟨s0_.2.2.1,s0_.2.2.2.1,s0_.2.2.2.2.1⟩,⟨s0_.2.2.2.2.2.1,s0_.2.2.2.2.2.2.1,s0_.2.2.2.2.2.2.2.1⟩,s0_.2.2.2.2.2.2.2.2.1,s0_.2.2.2.2.2.2.2.2.2.1,s0_.2.2.2.2.2.2.2.2.2.2.1,s0_.2.2.2.2.2.2.2.2.2.2.2⟩:Zc) x2).bind fun y4=>cond (!y4.2) (some (.inr (.inl ()))) (some (.inl ((IntKind.i64.wrap (s0_.1+1)),y4.1.Kind,y4.1.Old.Kind,y4.1.Old.Words,y4.1.Old.Kids,y4.1.New.Kind,y4.1.New.Words,y4.1.New.Kids,y4.1.Words,y4.1.Kids,y4.1.List_,y4.1.Ops)))) (some (.inr (.inr (s0_.2.1,s0_.2.2.1,s0_.2.2.2.1,s0_.2.2.2.2.1,s0_.2.2.2.2.2.1,s0_.2.2.2.2.2.2.1,s0_.2.2.2.2.2.2.2.1,s0_.2.2.2.2.2.2.2.2.1,s0_.2.2.2.2.2.2.2.2.2.1,s0_.2.2.2.2.2.2.2.2.2.2.1,s0_.2.2.2.2.2.2.2.2.2.2.2))))
noncomputable def Zfk (a0:(List Zc)):Option (Zc×Bool) :=
 (Zw (V6 a0) (0,0,0,([]:(List Int)),([]:(List Zb)),0,([]:(List Int)),([]:(List Zb)),([]:(List Zr)),([]:(List Zm)),0,([]:(List Zl)))).bind fun (z7:(Unit ⊕ (Int×Int×(List Int)×(List Zb)×Int×(List Int)×(List Zb)×(List Zr)×(List Zm)×Int×(List Zl))))=>match z7 with | .inl z7=>some ((⟨0,⟨0,[],[]⟩,⟨0,[],[]⟩,[],[],0,[]⟩:Zc),false) | .inr z7=>some ((⟨z7.1,⟨z7.2.1,z7.2.2.1,z7.2.2.2.1⟩,⟨z7.2.2.2.2.1,z7.2.2.2.2.2.1,z7.2.2.2.2.2.2.1⟩,z7.2.2.2.2.2.2.2.1,z7.2.2.2.2.2.2.2.2.1,z7.2.2.2.2.2.2.2.2.2.1,z7.2.2.2.2.2.2.2.2.2.2⟩:Zc),true)
noncomputable def Qz :Option Bool :=
 (J4 1).bind fun y4=>(J4 2).bind fun y5=>(Uo (⟨3,⟨0,[],[]⟩,⟨0,[],[]⟩,[],[],4,([(⟨1,0,y4,⟨0,⟨0,[],[]⟩,⟨0,[],[]⟩,[],[],0,[]⟩⟩:Zl),(⟨0,1,[],⟨0,⟨0,[],[]⟩,⟨0,[],[]⟩,[],[],0,[]⟩⟩:Zl),(⟨2,0,y5,⟨0,⟨0,[],[]⟩,⟨0,[],[]⟩,[],[],0,[]⟩⟩:Zl)]:List Zl)⟩:Zc)).bind fun y6=>(Zfk y6).bind fun y8=>(cond y8.2 (cond ((y6.length:Int) == 2) ((Xj y6 0).bind fun x26=>cond ((x26.Ops.length:Int) == 2) ((Xj y6 1).bind fun x28=>(Xj x28.Ops 0).bind fun x30=>cond (x30.N == 1) (cond ((y8.1.Ops.length:Int) == 3) ((Xj y8.1.Ops 0).bind fun x32=>some (cond (cond (cond (cond (cond y8.2 ((y6.length:Int) == 2) false) ((x26.Ops.length:Int) == 2) false) (x30.N == 1) false) ((y8.1.Ops.length:Int) == 3) false) (x32.Kind == 1) false)) (some false)) (some false)) (some false)) (some false)) (some false)).bind fun (z17:Bool)=>some z17
noncomputable def X2 (a0:(List Int)) (a1:(List Int)) (s0_:Int):Option (Int ⊕ (Unit ⊕ Unit)) :=
 cond (decide (s0_ < (a0.length:Int))) ((Xj a0 s0_).bind fun x3=>(Xj a1 s0_).bind fun x4=>cond (x3 != x4) (some (.inr (.inl ()))) (some (.inl (IntKind.i64.wrap (s0_+1))))) (some (.inr (.inr ())))
noncomputable def Xs (a0:(List Int)) (a1:(List Int)):Option Bool :=
 cond ((a0.length:Int) != (a1.length:Int)) (some false) ((Zw (X2 a0 a1) 0).bind fun (z7:(Unit ⊕ Unit))=>match z7 with | .inl z7=>some false | .inr z7=>some true)
noncomputable def Ze8 (Jx:(Zb→Zb→Option Bool)) (Zu:((List Zb)→(List Zb)→Option Bool)) (a0:Zb) (a1:Zb):Option Bool :=
 cond (a0.Kind != a1.Kind) (some false) (cond (a0.Kind == 0) (some true) (cond (a0.Kind == 1) (((Vc a0.Words).bind fun y14=>(Vc a1.Words).bind fun y15=>(Xs y14 y15).bind fun y16=>cond y16 ((V7 a0.Kids).bind fun y17=>(V7 a1.Kids).bind fun y18=>(Zu y17 y18).bind fun y19=>some (cond y16 y19 false)) (some false)).bind fun (z7:Bool)=>some z7) (((Xs a0.Words a1.Words).bind fun y26=>cond y26 ((Zu a0.Kids a1.Kids).bind fun y27=>some (cond y26 y27 false)) (some false)).bind fun (z23:Bool)=>some z23)))
noncomputable def Z7 (Jx:(Zb→Zb→Option Bool)) (a0:(List Zb)) (a1:(List Zb)) (s0_:Int):Option (Int ⊕ (Unit ⊕ Unit)) :=
 cond (decide (s0_ < (a0.length:Int))) ((Xj a0 s0_).bind fun x2=>(Xj a1 s0_).bind fun x4=>(Jx x2 x4).bind fun y6=>cond (!y6) (some (.inr (.inl ()))) (some (.inl (IntKind.i64.wrap (s0_+1))))) (some (.inr (.inr ())))
noncomputable def Yb (Jx:(Zb→Zb→Option Bool)) (Zu:((List Zb)→(List Zb)→Option Bool)) (a0:(List Zb)) (a1:(List Zb)):Option Bool :=
 cond ((a0.length:Int) != (a1.length:Int)) (some false) ((Zw (Z7 Jx a0 a1) 0).bind fun (z9:(Unit ⊕ Unit))=>match z9 with | .inl z9=>some false | .inr z9=>some true)
noncomputable def Xq:Nat→((Zb→Zb→Option Bool)×((List Zb)→(List Zb)→Option Bool))
 | 0=>((fun _ _=>none),(fun _ _=>none))
 | k+1=>(Ze8 ((Xq k).1) ((Xq k).2),Yb ((Xq k).1) ((Xq k).2))
noncomputable def Zku (a0:Zb) (a1:Zb):Option Bool:=lim fun k=>(Xq k).1 a0 a1
noncomputable def Xc (a0:(List Zb)) (a1:(List Zb)):Option Bool:=lim fun k=>(Xq k).2 a0 a1
noncomputable def V5 (a0:List Int):Option (List Int) :=
 Gc 8 ([]:List Int) a0
noncomputable def Kj (a0:List Zb):Option (List Zb) :=
 Gc 56 ([]:List Zb) a0
noncomputable def Zhf (a0:Zb) (a1:Int):Option Int :=
 cond (cond (decide (a1 < 0)) true (decide ((a0.Words.length:Int)≤a1))) (some 0) ((Xj a0.Words a1).bind fun x2=>some x2)
noncomputable def Gi (a0:Int):Option Bool :=
 some (cond (decide (a0 < 0)) true (decide (65534 < a0)))
noncomputable def Zcr (a0:Int) (s0_:(Int×Int)):Option ((Int×Int) ⊕ Int) :=
 cond (decide (s0_.2 < 8)) (((Zob (0≤s0_.2)).bind fun u3=>cond ((IntKind.u8.wrap (Zjf .u8 (Int.fdiv a0 (2 ^ min (Int.toNat s0_.2) 8)) 1)) == 1) ((Zob (0≤(IntKind.i64.wrap (8 * s0_.2)))).bind fun u4=>some (IntKind.u64.wrap (Zvc .u64 s0_.1 (IntKind.u64.wrap (255 * 2 ^ min (Int.toNat (IntKind.i64.wrap (8 * s0_.2))) 64))))) (some s0_.1)).bind fun (z1:Int)=>some (.inl (z1,(IntKind.i64.wrap (s0_.2+1))))) (some (.inr s0_.1))
noncomputable def Zcq (a0:Int):Option Int :=
 (Zw (Zcr a0) (0,0)).bind fun (z7:Int)=>some z7
noncomputable def Zgg (a0:Int) (a1:Int) (a2:Int):Option Int :=
 (Zcq a2).bind fun y2=>some (IntKind.u64.wrap (Zvc .u64 (IntKind.u64.wrap (Zxw .u64 a0 y2)) (IntKind.u64.wrap (Zjf .u64 a1 y2))))
noncomputable def U2 (a1:Int) (a2:Int) (s0_:(List Int)):Option ((List Int) ⊕ (List Int)) :=
 cond (cond (decide ((s0_.length:Int)≤a1)) (a2 != 0) false) ((Gc 8 s0_ ([0]:List Int)).bind fun l1=>some (.inl l1)) (some (.inr s0_))
noncomputable def Zbg (a0:Zb) (a1:Int) (a2:Int):Option Zb :=
 (Zw (U2 a1 a2) a0.Words).bind fun (z3:(List Int))=>cond (decide (a1 < (z3.length:Int))) ((Xj z3 a1).bind fun x4=>some (⟨a0.Kind,(Zgr z3 a1 a2),a0.Kids⟩:Zb)) (some (⟨a0.Kind,z3,a0.Kids⟩:Zb))
noncomputable def Zig (a0:Zb) (a1:Int):Option Zb :=
 cond (cond (decide (a1 < 0)) true (decide ((a0.Kids.length:Int)≤a1))) (some (⟨0,[],[]⟩:Zb)) ((Xj a0.Kids a1).bind fun x2=>some x2)
noncomputable def Gv (a1:Int) (a2:Zb) (s0_:(List Zb)):Option ((List Zb) ⊕ (List Zb)) :=
 cond (cond (decide ((s0_.length:Int)≤a1)) (a2.Kind != 0) false) ((Gc 56 s0_ ([(⟨0,[],[]⟩:Zb)]:List Zb)).bind fun l1=>(Xj l1 (s0_.length:Int)).bind fun x2=>some (.inl (s0_++[(⟨0,[],[]⟩:Zb)]))) (some (.inr s0_))
noncomputable def Zcp (a0:Zb) (a1:Int) (a2:Zb):Option Zb :=
 (Zw (Gv a1 a2) a0.Kids).bind fun (z5:(List Zb))=>cond (decide (a1 < (z5.length:Int))) ((Xj z5 a1).bind fun x6=>some (⟨a0.Kind,a0.Words,(Zgr z5 a1 a2)⟩:Zb)) (some (⟨a0.Kind,a0.Words,z5⟩:Zb))
noncomputable def Zhe (a0:Int):Option Bool :=
 some (cond (decide (2≤a0)) (decide (a0≤9)) false)
structure Zj where
 left:(List Zb)
 out:(List Zb)
noncomputable def Gn (Yz:(Zc→Zb→Option (Zb×Bool))) (Ya:(Zc→Zb→Option (Zb×Bool))) (Xb:(Zc→Zb→Option (Zb×Bool))) (Zz:(Zj→Zl→Option (Bool×Zj))) (Zy:(Zj→Zc→Option (Bool×Zj))) (a0:Zc) (a1:Zb):Option (Zb×Bool) :=
 cond (a0.Kind == 0) (some (a1,true)) (cond (a0.Kind == 1) ((Zku a1 a0.Old).bind fun y2=>some (a0.New,y2)) (cond (a0.Kind == 2) ((Ya a0 a1).bind fun y4=>some (y4.1,y4.2)) (cond (a0.Kind == 3) ((Xb a0 a1).bind fun y6=>some (y6.1,y6.2)) (some ((⟨0,[],[]⟩:Zb),false)))))
noncomputable def Qu (a0:Zc) (a1:Zb) (s0_:(Int×Int×(List Int)×(List Zb))):Option ((Int×Int×(List Int)×(List Zb)) ⊕ (Unit ⊕ (Int×(List Int)×(List Zb)))) :=
 cond (decide (s0_.1 < (a0.Words.length:Int))) ((Xj a0.Words s0_.1).bind fun x110=>(Zhf a1 x110.At).bind fun y112=>((Gi x110.At).bind fun y118=>cond y118 (some true) ((Zcq x110.Mask).bind fun y119=>some (cond y118 true ((IntKind.u64.wrap (Zjf .u64 (IntKind.u64.wrap (Zpp .u64 y112 x110.Old)) y119)) != 0)))).bind fun (z115:Bool)=>cond z115 (some (.inr (.inl ()))) ((Zgg y112 x110.New x110.Mask).bind fun y121=>(Zbg (⟨s0_.2.1,s0_.2.2.1,s0_.2.2.2⟩:Zb) x110.At y121).bind fun y122=>some (.inl ((IntKind.i64.wrap (s0_.1+1)),y122.Kind,y122.Words,y122.Kids)))) (some (.inr (.inr (s0_.2.1,s0_.2.2.1,s0_.2.2.2))))
noncomputable def Qc (Yz:(Zc→Zb→Option (Zb×Bool))) (a0:Zc) (a1:Zb) (s1_:(Int×Int×(List Int)×(List Zb))):Option ((Int×Int×(List Int)×(List Zb)) ⊕ (Unit ⊕ (Int×(List Int)×(List Zb)))) :=
 cond (decide (s1_.1 < (a0.Kids.length:Int))) ((Xj a0.Kids s1_.1).bind fun x127=>(Zig a1 x127.At).bind fun y130=>(Yz x127.E y130).bind fun y131=>(Gi x127.At).bind fun y133=>cond (cond y133 true (!y131.2)) (some (.inr (.inl ()))) ((Zcp (⟨s1_.2.1,s1_.2.2.1,s1_.2.2.2⟩:Zb) x127.At y131.1).bind fun y134=>some (.inl ((IntKind.i64.wrap (s1_.1+1)),y134.Kind,y134.Words,y134.Kids)))) (some (.inr (.inr (s1_.2.1,s1_.2.2.1,s1_.2.2.2))))
noncomputable def Vr (Yz:(Zc→Zb→Option (Zb×Bool))) (Ya:(Zc→Zb→Option (Zb×Bool))) (Xb:(Zc→Zb→Option (Zb×Bool))) (Zz:(Zj→Zl→Option (Bool×Zj))) (Zy:(Zj→Zc→Option (Bool×Zj))) (a0:Zc) (a1:Zb):Option (Zb×Bool) :=
 cond (a1.Kind != 1) (some ((⟨0,[],[]⟩:Zb),false)) ((V5 a1.Words).bind fun y25=>(Kj a1.Kids).bind fun y61=>(Zw (Qu a0 a1) (0,1,y25,y61)).bind fun (z125:(Unit ⊕ (Int×(List Int)×(List Zb))))=>match z125 with | .inl z125=>some ((⟨0,[],[]⟩:Zb),false) | .inr z125=>(Zw (Qc Yz a0 a1) (0,z125.1,z125.2.1,z125.2.2)).bind fun (z137:(Unit ⊕ (Int×(List Int)×(List Zb))))=>match z137 with | .inl z137=>some ((⟨0,[],[]⟩:Zb),false) | .inr z137=>some ((⟨z137.1,z137.2.1,z137.2.2⟩:Zb),true))
noncomputable def Kt (Zz:(Zj→Zl→Option (Bool×Zj))) (a0:Zc) (s0_:(Int×(List Zb)×(List Zb))):Option ((Int×(List Zb)×(List Zb)) ⊕ (Unit ⊕ ((List Zb)×(List Zb)))) :=
 cond (decide (s0_.1 < (a0.Ops.length:Int))) ((Xj a0.Ops s0_.1).bind fun x7=>(Zz (⟨s0_.2.1,s0_.2.2⟩:Zj) x7).bind fun y9=>cond (!y9.1) (some (.inr (.inl ()))) (some (.inl ((IntKind.i64.wrap (s0_.1+1)),y9.2.left,y9.2.out)))) (some (.inr (.inr (s0_.2.1,s0_.2.2))))
noncomputable def Zdo (Yz:(Zc→Zb→Option (Zb×Bool))) (Ya:(Zc→Zb→Option (Zb×Bool))) (Xb:(Zc→Zb→Option (Zb×Bool))) (Zz:(Zj→Zl→Option (Bool×Zj))) (Zy:(Zj→Zc→Option (Bool×Zj))) (a0:Zc) (a1:Zb):Option (Zb×Bool) :=
 (cond (a1.Kind != a0.List_) (some true) ((Zhe a1.Kind).bind fun y4=>some (cond (a1.Kind != a0.List_) true (!y4)))).bind fun (z2:Bool)=>cond z2 (some ((⟨0,[],[]⟩:Zb),false)) ((Zw (Kt Zz a0) (0,a1.Kids,([]:List Zb))).bind fun (z12:(Unit ⊕ ((List Zb)×(List Zb))))=>match z12 with | .inl z12=>some ((⟨0,[],[]⟩:Zb),false) | .inr z12=>some ((⟨a1.Kind,[],z12.2⟩:Zb),((z12.1.length:Int) == 0)))
noncomputable def V9 (Yz:(Zc→Zb→Option (Zb×Bool))) (Ya:(Zc→Zb→Option (Zb×Bool))) (Xb:(Zc→Zb→Option (Zb×Bool))) (Zz:(Zj→Zl→Option (Bool×Zj))) (Zy:(Zj→Zc→Option (Bool×Zj))) (a0:Zj) (a1:Zl):Option (Bool×Zj) :=
 cond (a1.Kind == 0) ((cond (decide (a1.N < 0)) (some true) (some (cond (decide (a1.N < 0)) true (decide ((a0.left.length:Int) < a1.N))))).bind fun (z1:Bool)=>cond z1 (some (false,(⟨a0.left,a0.out⟩:Zj))) ((Zen a0.left 0 a1.N).bind fun l5=>(Gc 56 a0.out l5).bind fun l6=>(Zen a0.left a1.N (a0.left.length:Int)).bind fun l8=>some (true,(⟨l8,l6⟩:Zj)))) (cond (a1.Kind == 1) ((cond (decide ((a0.left.length:Int) < (a1.L.length:Int))) (some true) ((Zen a0.left 0 (a1.L.length:Int)).bind fun l15=>(Xc l15 a1.L).bind fun y16=>some (cond (decide ((a0.left.length:Int) < (a1.L.length:Int))) true (!y16)))).bind fun (z12:Bool)=>cond z12 (some (false,(⟨a0.left,a0.out⟩:Zj))) ((Zen a0.left (a1.L.length:Int) (a0.left.length:Int)).bind fun l19=>some (true,(⟨l19,a0.out⟩:Zj)))) (cond (a1.Kind == 2) ((Gc 56 a0.out a1.L).bind fun l22=>some (true,(⟨a0.left,l22⟩:Zj))) (cond (a1.Kind == 3) ((Zy (⟨a0.left,a0.out⟩:Zj) a1.E).bind fun y24=>some (y24.1,(⟨y24.2.left,y24.2.out⟩:Zj))) (some (false,(⟨a0.left,a0.out⟩:Zj))))))
noncomputable def Ki (Yz:(Zc→Zb→Option (Zb×Bool))) (Ya:(Zc→Zb→Option (Zb×Bool))) (Xb:(Zc→Zb→Option (Zb×Bool))) (Zz:(Zj→Zl→Option (Bool×Zj))) (Zy:(Zj→Zc→Option (Bool×Zj))) (a0:Zj) (a1:Zc):Option (Bool×Zj) :=
 cond ((a0.left.length:Int) == 0) (some (false,(⟨a0.left,a0.out⟩:Zj))) ((Xj a0.left 0).bind fun x3=>(Yz a1 x3).bind fun y4=>(Gc 56 a0.out ([(⟨0,[],[]⟩:Zb)]:List Zb)).bind fun l8=>(Xj l8 (a0.out.length:Int)).bind fun x9=>(Zen a0.left 1 (a0.left.length:Int)).bind fun l12=>some (y4.2,(⟨l12,(a0.out++[y4.1])⟩:Zj)))
noncomputable def Zo:Nat→((Zc→Zb→Option (Zb×Bool))×(Zc→Zb→Option (Zb×Bool))×(Zc→Zb→Option (Zb×Bool))×(Zj→Zl→Option (Bool×Zj))×(Zj→Zc→Option (Bool×Zj)))
 | 0=>((fun _ _=>none),(fun _ _=>none),(fun _ _=>none),(fun _ _=>none),(fun _ _=>none))
 | k+1=>(Gn ((Zo k).1) ((Zo k).2.1) ((Zo k).2.2.1) ((Zo k).2.2.2.1) ((Zo k).2.2.2.2),Vr ((Zo k).1) ((Zo k).2.1) ((Zo k).2.2.1) ((Zo k).2.2.2.1) ((Zo k).2.2.2.2),Zdo ((Zo k).1) ((Zo k).2.1) ((Zo k).2.2.1) ((Zo k).2.2.2.1) ((Zo k).2.2.2.2),V9 ((Zo k).1) ((Zo k).2.1) ((Zo k).2.2.1) ((Zo k).2.2.2.1) ((Zo k).2.2.2.2),Ki ((Zo k).1) ((Zo k).2.1) ((Zo k).2.2.1) ((Zo k).2.2.2.1) ((Zo k).2.2.2.2))
noncomputable def Zkt (a0:Zc) (a1:Zb):Option (Zb×Bool):=lim fun k=>(Zo k).1 a0 a1
noncomputable def Zds (a0:Zc) (a1:Zb):Option (Zb×Bool) :=
 (Zkt a0 a1).bind fun y2=>cond (!y2.2) (some ((⟨0,[],[]⟩:Zb),false)) ((Zaz y2.1).bind fun y4=>some (y4,true))
noncomputable def Vm (a0:(List Int)) (s0_:Int):Option (Int ⊕ Int) :=
 (cond (decide (0 < s0_)) ((Xj a0 (IntKind.i64.wrap (s0_ - 1))).bind fun x4=>some (cond (decide (0 < s0_)) (x4 == 0) false)) (some false)).bind fun (z2:Bool)=>cond z2 (some (.inl (IntKind.i64.wrap (s0_ - 1)))) (some (.inr s0_))
noncomputable def Gx (a0:(List Int)):Option (List Int) :=
 (Zw (Vm a0) (a0.length:Int)).bind fun (z7:Int)=>(Zen a0 0 z7).bind fun l10=>(Gc 8 ([]:List Int) l10).bind fun l11=>some l11
noncomputable def Qv (Jj:(Zb→Option Zb)) (a0:Zb) (s0_:(Int×Int×(List Zb))):Option ((Int×Int×(List Zb)) ⊕ (Int×(List Zb))) :=
 cond (decide (s0_.2.1 < (a0.Kids.length:Int))) (((Xj a0.Kids s0_.2.1).bind fun x4=>(Jj x4).bind fun y5=>(Gc 56 s0_.2.2 ([y5]:List Zb)).bind fun l7=>cond (y5.Kind != 0) (some ((IntKind.i64.wrap (s0_.2.1+1)),l7)) (some (s0_.1,l7))).bind fun (z1:(Int×(List Zb)))=>some (.inl (z1.1,(IntKind.i64.wrap (s0_.2.1+1)),z1.2))) (some (.inr (s0_.1,s0_.2.2)))
noncomputable def Gp (Jj:(Zb→Option Zb)) (a0:Zb):Option Zb :=
 cond (a0.Kind == 0) (some (⟨0,[],[]⟩:Zb)) ((Zw (Qv Jj a0) (0,0,([]:List Zb))).bind fun (z10:(Int×(List Zb)))=>cond (a0.Kind == 1) ((Gx a0.Words).bind fun y14=>(Zen z10.2 0 z10.1).bind fun l15=>some (⟨1,y14,l15⟩:Zb)) ((Gc 8 ([]:List Int) a0.Words).bind fun l17=>some (⟨a0.Kind,l17,z10.2⟩:Zb)))
noncomputable def Xy:Nat→(Zb→Option Zb)
 | 0=>(fun _=>none)
 | k+1=>Gp ((Xy k))
noncomputable def Zfh (a0:Zb):Option Zb:=lim fun k=>(Xy k) a0
noncomputable def Vl (a0:(List Int)) (a1:(List Int)) (s0_:Int):Option (Int ⊕ (Unit ⊕ Unit)) :=
 cond (decide (s0_ < (a0.length:Int))) ((Xj a0 s0_).bind fun x3=>(Xj a1 s0_).bind fun x4=>cond (x3 != x4) (some (.inr (.inl ()))) (some (.inl (IntKind.i64.wrap (s0_+1))))) (some (.inr (.inr ())))
noncomputable def Gw (a0:(List Int)) (a1:(List Int)):Option Bool :=
 cond ((a0.length:Int) != (a1.length:Int)) (some false) ((Zw (Vl a0 a1) 0).bind fun (z7:(Unit ⊕ Unit))=>match z7 with | .inl z7=>some false | .inr z7=>some true)
noncomputable def Vh (Jk:(Zb→Zb→Option Bool)) (a0:Zb) (a1:Zb) (s0_:Int):Option (Int ⊕ (Unit ⊕ Unit)) :=
 cond (decide (s0_ < (a0.Kids.length:Int))) ((Xj a0.Kids s0_).bind fun x9=>(Xj a1.Kids s0_).bind fun x10=>(Jk x9 x10).bind fun y11=>cond (!y11) (some (.inr (.inl ()))) (some (.inl (IntKind.i64.wrap (s0_+1))))) (some (.inr (.inr ())))
noncomputable def Gq (Jk:(Zb→Zb→Option Bool)) (a0:Zb) (a1:Zb):Option Bool :=
 (cond (a0.Kind != a1.Kind) (some true) ((Gw a0.Words a1.Words).bind fun y4=>some (cond (cond (a0.Kind != a1.Kind) true (!y4)) true ((a0.Kids.length:Int) != (a1.Kids.length:Int))))).bind fun (z2:Bool)=>cond z2 (some false) ((Zw (Vh Jk a0 a1) 0).bind fun (z14:(Unit ⊕ Unit))=>match z14 with | .inl z14=>some false | .inr z14=>some true)
noncomputable def J0:Nat→(Zb→Zb→Option Bool)
 | 0=>(fun _ _=>none)
 | k+1=>Gq ((J0 k))
noncomputable def Zfi (a0:Zb) (a1:Zb):Option Bool:=lim fun k=>(J0 k) a0 a1
noncomputable def Xa (y16:(List Zc)) (s0_:(Bool×Int×Int×(List Int)×(List Zb))):Option ((Bool×Int×Int×(List Int)×(List Zb)) ⊕ (Bool ⊕ (Bool×Int×(List Int)×(List Zb)))) :=
 cond (cond (decide (s0_.2.1 < (y16.length:Int))) s0_.1 false) ((Vv (⟨s0_.2.2.1,s0_.2.2.2.1,s0_.2.2.2.2⟩:Zb)).bind fun y22=>cond (!y22) ((Qz).bind fun y24=>some (.inr (.inl y24))) ((Xj y16 s0_.2.1).bind fun x25=>(Zds x25 (⟨s0_.2.2.1,s0_.2.2.2.1,s0_.2.2.2.2⟩:Zb)).bind fun y26=>some (.inl (y26.2,(IntKind.i64.wrap (s0_.2.1+1)),y26.1.Kind,y26.1.Words,y26.1.Kids)))) (some (.inr (.inr (s0_.1,s0_.2.2.1,s0_.2.2.2.1,s0_.2.2.2.2))))
noncomputable def Uj (a0:Zc) (a1:Zb):Option Bool :=
 ((Gy a0).bind fun y8=>cond y8 ((Zev a0).bind fun y9=>cond (decide (200 < y9)) (some true) ((Vv a1).bind fun y10=>some (cond (cond (!y8) true (decide (200 < y9))) true (!y10)))) (some true)).bind fun (z4:Bool)=>cond z4 ((Qz).bind fun y14=>some y14) ((Uo a0).bind fun y16=>(Zds a0 a1).bind fun y18=>(Zfh a1).bind fun y20=>(Zw (Xa y16) (true,0,y20.Kind,y20.Words,y20.Kids)).bind fun (z29:(Bool ⊕ (Bool×Int×(List Int)×(List Zb))))=>match z29 with | .inl z29=>some z29 | .inr z29=>(cond (y18.2 == z29.1) (cond y18.2 ((Zfi y18.1 (⟨z29.2.1,z29.2.2.1,z29.2.2.2⟩:Zb)).bind fun y37=>cond y37 ((Qz).bind fun y38=>some (cond (cond (y18.2 == z29.1) (cond (!y18.2) true y37) false) y38 false)) (some false)) ((Qz).bind fun y39=>some (cond (cond (y18.2 == z29.1) true false) y39 false))) (some false)).bind fun (z33:Bool)=>some z33)
mutual
def G9:Zb→List G
 | ⟨f0,f1,f2⟩=>[.val (.int .i64 f0),.sl f1.length (fl (eI .u64) f1),.sl f2.length (Zaa f2)]
def Zaa:List Zb→List G
 | []=>[]
 | x::xs=>G9 x++Zaa xs
end
theorem Zj1:∀ xs,Zaa xs=fl G9 xs
 | []=>by simp [Zaa,fl]
 | x::xs=>by rw [Zaa,Gs,Zj1 xs]
def Za (x:Zb):List G:=[.val (.int .i64 x.Kind),.sl x.Words.length (fl (eI .u64) x.Words),.sl x.Kids.length (fl G9 x.Kids)]
theorem Yq:G9=Za:=by
 funext x
 obtain ⟨_,_,_⟩:=x
 simp only [G9,Zj1,Za,List.cons_append,List.nil_append,List.append_nil]
mutual
theorem Zip:∀ x,G.pures (G9 x)=true
 | ⟨f0,f1,f2⟩=>by simp [G9,eP,Km,eI,eB,eS,eL,G.pures,G.pure,Zbs,Z6,Zld f2]
theorem Zld:∀ xs,G.pures (Zaa xs)=true
 | []=>rfl
 | x::xs=>by simp [Zaa,Zbs,Zip x,Zld xs]
end
theorem Ziq:∀ x,G.pures (Za x)=true:=fun x=>by rw [← Yq];exact Zip x
theorem Ka:∀ x,G.pures ((eI .u64) x)=true:=fun x=>by simp [eI,eB,eS,eL,eP,G.pures,G.pure,Z6,Km,Yq]
theorem Zo4 {O O':Objs} {n:Nat} (xs:List Int):U8 O O' n (fl (eI .u64) xs) (fl (eI .u64) xs):=Zdi (Z6 Ka xs)
theorem Zo3 {O O':Objs} {n:Nat} (xs:List Int) (b b':List G):U8 O O' n (fl (eI .u64) xs++b) (fl (eI .u64) xs++b')=U8 O O' n b b':=Zbo b b' _ (Z6 Ka xs)
theorem Zoe (xs:List Int):(fl (eI .u64) xs).length=xs.length * 1:=Q7 (f:=(eI .u64)) (k:=1) (fun _=>rfl) xs
theorem Zol (xs:List Int):(fl (eI .u64) xs).all G.one=true:=V2 (fun x=>by simp [eI,eB,eS,eL,eP,Zfo,G.one,Value.oneCell']) xs
theorem Zo5 {O O':Objs} {n:Nat} (x:Option Int):wk O O' n (gP (eI .u64) x) (gP (eI .u64) x)=True:=Zmp Ka x
theorem Zmo {k:Nat} (x:Option Int):(gP (eI .u64) x).under k=true:=Zbn Ka k x
theorem Zml {ρ:Nat→Nat} (xs:List Int):G.rens ρ (fl (eI .u64) xs)=fl (eI .u64) xs:=Kb ρ _ (Z6 Ka xs)
theorem Zmk {ρ:Nat→Nat} (x:Option Int):(gP (eI .u64) x).ren ρ=gP (eI .u64) x:=Zav ρ _ (Km Ka x)
theorem Zo1 {k:Nat} (xs:List Int):G.unders k (fl (eI .u64) xs)=true:=Xp _ _ (Z6 Ka xs)
theorem Y8:∀ x,G.pures (Za x)=true:=fun x=>by rw [← Yq];exact Zip x
theorem Zgy {O O':Objs} {n:Nat} (xs:List Zb):U8 O O' n (fl Za xs) (fl Za xs):=Zdi (Z6 Y8 xs)
theorem Zgw {O O':Objs} {n:Nat} (xs:List Zb) (b b':List G):U8 O O' n (fl Za xs++b) (fl Za xs++b')=U8 O O' n b b':=Zbo b b' _ (Z6 Y8 xs)
theorem Zge (xs:List Zb):(fl Za xs).length=xs.length * 3:=Q7 (f:=Za) (k:=3) (fun _=>rfl) xs
theorem Zgm (xs:List Zb):(fl Za xs).all G.one=true:=V2 (fun x=>by simp [eI,eB,eS,eL,eP,Zfo,G.one,Value.oneCell',Za]) xs
theorem Zg0 {O O':Objs} {n:Nat} (x:Option Zb):wk O O' n (gP Za x) (gP Za x)=True:=Zmp Y8 x
theorem Zfy {k:Nat} (x:Option Zb):(gP Za x).under k=true:=Zbn Y8 k x
theorem Zfu {ρ:Nat→Nat} (xs:List Zb):G.rens ρ (fl Za xs)=fl Za xs:=Kb ρ _ (Z6 Y8 xs)
theorem Zfs {ρ:Nat→Nat} (x:Option Zb):(gP Za x).ren ρ=gP Za x:=Zav ρ _ (Km Y8 x)
theorem Zgu {k:Nat} (xs:List Zb):G.unders k (fl Za xs)=true:=Xp _ _ (Z6 Y8 xs)
def Zf (x:Zr):List G:=[.val (.int .i64 x.At),.val (.int .u8 x.Mask),.val (.int .u64 x.Old),.val (.int .u64 x.New)]
mutual
def Kf:Zc→List G
 | ⟨f0,f1,f2,f3,f4,f5,f6⟩=>[.val (.int .i64 f0),.val (.int .i64 f1.Kind),.sl f1.Words.length (fl (eI .u64) f1.Words),.sl f1.Kids.length (fl Za f1.Kids),.val (.int .i64 f2.Kind),.sl f2.Words.length (fl (eI .u64) f2.Words),.sl f2.Kids.length (fl Za f2.Kids),.sl f3.length (fl Zf f3),.sl f4.length (K7 f4),.val (.int .i64 f5),.sl f6.length (Zch f6)]
def Zbq:List Zc→List G
 | []=>[]
 | x::xs=>Kf x++Zbq xs
def X8:Zm→List G
 | ⟨f0,f1⟩=>[.val (.int .i64 f0)]++Kf f1
def K7:List Zm→List G
 | []=>[]
 | x::xs=>X8 x++K7 xs
def Vj:Zl→List G
 | ⟨f0,f1,f2,f3⟩=>[.val (.int .i64 f0),.val (.int .i64 f1),.sl f2.length (fl Za f2)]++Kf f3
def Zch:List Zl→List G
 | []=>[]
 | x::xs=>Vj x++Zch xs
end
theorem Zdr:∀ xs,Zbq xs=fl Kf xs
 | []=>by simp [Zbq,fl]
 | x::xs=>by rw [Zbq,Gs,Zdr xs]
theorem Zag:∀ xs,K7 xs=fl X8 xs
 | []=>by simp [K7,fl]
 | x::xs=>by rw [K7,Gs,Zag xs]
theorem Zfa:∀ xs,Zch xs=fl Vj xs
 | []=>by simp [Zch,fl]
 | x::xs=>by rw [Zch,Gs,Zfa xs]
def Zn (x:Zc):List G:=[.val (.int .i64 x.Kind),.val (.int .i64 x.Old.Kind),.sl x.Old.Words.length (fl (eI .u64) x.Old.Words),.sl x.Old.Kids.length (fl Za x.Old.Kids),.val (.int .i64 x.New.Kind),.sl x.New.Words.length (fl (eI .u64) x.New.Words),.sl x.New.Kids.length (fl Za x.New.Kids),.sl x.Words.length (fl Zf x.Words),.sl x.Kids.length (fl X8 x.Kids),.val (.int .i64 x.List_),.sl x.Ops.length (fl Vj x.Ops)]
def Zh (x:Zm):List G:=[.val (.int .i64 x.At),.val (.int .i64 x.E.Kind),.val (.int .i64 x.E.Old.Kind),.sl x.E.Old.Words.length (fl (eI .u64) x.E.Old.Words),.sl x.E.Old.Kids.length (fl Za x.E.Old.Kids),.val (.int .i64 x.E.New.Kind),.sl x.E.New.Words.length (fl (eI .u64) x.E.New.Words),.sl x.E.New.Kids.length (fl Za x.E.New.Kids),.sl x.E.Words.length (fl Zf x.E.Words),.sl x.E.Kids.length (fl X8 x.E.Kids),.val (.int .i64 x.E.List_),.sl x.E.Ops.length (fl Vj x.E.Ops)]
def Zd (x:Zl):List G:=[.val (.int .i64 x.Kind),.val (.int .i64 x.N),.sl x.L.length (fl Za x.L),.val (.int .i64 x.E.Kind),.val (.int .i64 x.E.Old.Kind),.sl x.E.Old.Words.length (fl (eI .u64) x.E.Old.Words),.sl x.E.Old.Kids.length (fl Za x.E.Old.Kids),.val (.int .i64 x.E.New.Kind),.sl x.E.New.Words.length (fl (eI .u64) x.E.New.Words),.sl x.E.New.Kids.length (fl Za x.E.New.Kids),.sl x.E.Words.length (fl Zf x.E.Words),.sl x.E.Kids.length (fl X8 x.E.Kids),.val (.int .i64 x.E.List_),.sl x.E.Ops.length (fl Vj x.E.Ops)]
theorem Xh:Kf=Zn:=by
 funext x
 obtain ⟨_,_,_,_,_,_,_⟩:=x
 simp only [Kf,Zdr,X8,Zag,Vj,Zfa,Zn,List.cons_append,List.nil_append,List.append_nil]
theorem Y0:X8=Zh:=by
 funext x
 obtain ⟨_,⟨_,_,_,_,_,_,_⟩⟩:=x
 simp only [Kf,Zdr,X8,Zag,Vj,Zfa,Zh,List.cons_append,List.nil_append,List.append_nil]
theorem Xu:Vj=Zd:=by
 funext x
 obtain ⟨_,_,_,⟨_,_,_,_,_,_,_⟩⟩:=x
 simp only [Kf,Zdr,X8,Zag,Vj,Zfa,Zd,List.cons_append,List.nil_append,List.append_nil]
mutual
theorem Zfq:∀ x,G.pures (Kf x)=true
 | ⟨f0,f1,f2,f3,f4,f5,f6⟩=>by simp [Kf,eP,Km,eI,eB,eS,eL,G.pures,G.pure,Zbs,Z6,Zir f4,Zns f6,Ka,Y8,Ziq,Zf]
theorem Ztc:∀ xs,G.pures (Zbq xs)=true
 | []=>rfl
 | x::xs=>by simp [Zbq,Zbs,Zfq x,Ztc xs]
theorem Zjj:∀ x,G.pures (X8 x)=true
 | ⟨f0,f1⟩=>by simp [X8,eP,Km,eI,eB,eS,eL,G.pures,G.pure,Zbs,Z6,Zfq f1,Ka,Y8,Ziq,Zf]
theorem Zir:∀ xs,G.pures (K7 xs)=true
 | []=>rfl
 | x::xs=>by simp [K7,Zbs,Zjj x,Zir xs]
theorem Zpz:∀ x,G.pures (Vj x)=true
 | ⟨f0,f1,f2,f3⟩=>by simp [Vj,eP,Km,eI,eB,eS,eL,G.pures,G.pure,Zbs,Z6,Zfq f3,Ka,Y8,Ziq,Zf]
theorem Zns:∀ xs,G.pures (Zch xs)=true
 | []=>rfl
 | x::xs=>by simp [Zch,Zbs,Zpz x,Zns xs]
end
theorem Y5:∀ x,G.pures (Zf x)=true:=fun x=>by simp [eI,eB,eS,eL,eP,G.pures,G.pure,Z6,Km,Zf,Ka,Y8,Yq,Xh,Y0,Xu]
theorem Zdg {O O':Objs} {n:Nat} (xs:List Zr):U8 O O' n (fl Zf xs) (fl Zf xs):=Zdi (Z6 Y5 xs)
theorem Zdd {O O':Objs} {n:Nat} (xs:List Zr) (b b':List G):U8 O O' n (fl Zf xs++b) (fl Zf xs++b')=U8 O O' n b b':=Zbo b b' _ (Z6 Y5 xs)
theorem Zcl (xs:List Zr):(fl Zf xs).length=xs.length * 4:=Q7 (f:=Zf) (k:=4) (fun _=>rfl) xs
theorem Zcv (xs:List Zr):(fl Zf xs).all G.one=true:=V2 (fun x=>by simp [eI,eB,eS,eL,eP,Zfo,G.one,Value.oneCell',Zf]) xs
theorem Zdl {O O':Objs} {n:Nat} (x:Option Zr):wk O O' n (gP Zf x) (gP Zf x)=True:=Zmp Y5 x
theorem Zb8 {k:Nat} (x:Option Zr):(gP Zf x).under k=true:=Zbn Y5 k x
theorem Zb4 {ρ:Nat→Nat} (xs:List Zr):G.rens ρ (fl Zf xs)=fl Zf xs:=Kb ρ _ (Z6 Y5 xs)
theorem Zb1 {ρ:Nat→Nat} (x:Option Zr):(gP Zf x).ren ρ=gP Zf x:=Zav ρ _ (Km Y5 x)
theorem Zc8 {k:Nat} (xs:List Zr):G.unders k (fl Zf xs)=true:=Xp _ _ (Z6 Y5 xs)
theorem Xk:∀ x,G.pures (Zh x)=true:=fun x=>by rw [← Y0];exact Zjj x
theorem Zec {O O':Objs} {n:Nat} (xs:List Zm):U8 O O' n (fl Zh xs) (fl Zh xs):=Zdi (Z6 Xk xs)
theorem Zea {O O':Objs} {n:Nat} (xs:List Zm) (b b':List G):U8 O O' n (fl Zh xs++b) (fl Zh xs++b')=U8 O O' n b b':=Zbo b b' _ (Z6 Xk xs)
theorem Zd1 (xs:List Zm):(fl Zh xs).length=xs.length * 12:=Q7 (f:=Zh) (k:=12) (fun _=>rfl) xs
theorem Zd5 (xs:List Zm):(fl Zh xs).all G.one=true:=V2 (fun x=>by simp [eI,eB,eS,eL,eP,Zfo,G.one,Value.oneCell',Zh]) xs
theorem Zee {O O':Objs} {n:Nat} (x:Option Zm):wk O O' n (gP Zh x) (gP Zh x)=True:=Zmp Xk x
theorem Zdb {k:Nat} (x:Option Zm):(gP Zh x).under k=true:=Zbn Xk k x
theorem Zc2 {ρ:Nat→Nat} (xs:List Zm):G.rens ρ (fl Zh xs)=fl Zh xs:=Kb ρ _ (Z6 Xk xs)
theorem Zc0 {ρ:Nat→Nat} (x:Option Zm):(gP Zh x).ren ρ=gP Zh x:=Zav ρ _ (Km Xk x)
theorem Zd7 {k:Nat} (xs:List Zm):G.unders k (fl Zh xs)=true:=Xp _ _ (Z6 Xk xs)
theorem Q4:∀ x,G.pures (Zd x)=true:=fun x=>by rw [← Xu];exact Zpz x
theorem Zi3 {O O':Objs} {n:Nat} (xs:List Zl):U8 O O' n (fl Zd xs) (fl Zd xs):=Zdi (Z6 Q4 xs)
theorem Zi2 {O O':Objs} {n:Nat} (xs:List Zl) (b b':List G):U8 O O' n (fl Zd xs++b) (fl Zd xs++b')=U8 O O' n b b':=Zbo b b' _ (Z6 Q4 xs)
theorem Zie (xs:List Zl):(fl Zd xs).length=xs.length * 14:=Q7 (f:=Zd) (k:=14) (fun _=>rfl) xs
theorem Zim (xs:List Zl):(fl Zd xs).all G.one=true:=V2 (fun x=>by simp [eI,eB,eS,eL,eP,Zfo,G.one,Value.oneCell',Zd]) xs
theorem Zi4 {O O':Objs} {n:Nat} (x:Option Zl):wk O O' n (gP Zd x) (gP Zd x)=True:=Zmp Q4 x
theorem Zhx {k:Nat} (x:Option Zl):(gP Zd x).under k=true:=Zbn Q4 k x
theorem Zhu {ρ:Nat→Nat} (xs:List Zl):G.rens ρ (fl Zd xs)=fl Zd xs:=Kb ρ _ (Z6 Q4 xs)
theorem Zht {ρ:Nat→Nat} (x:Option Zl):(gP Zd x).ren ρ=gP Zd x:=Zav ρ _ (Km Q4 x)
theorem Zi0 {k:Nat} (xs:List Zl):G.unders k (fl Zd xs)=true:=Xp _ _ (Z6 Q4 xs)
theorem Zcy:∀ x,G.pures ((eI .u8) x)=true:=fun x=>by simp [eI,eB,eS,eL,eP,G.pures,G.pure,Z6,Km,Ka,Y8,Y5,Xk,Q4,Yq,Xh,Y0,Xu]
theorem Zsp {O O':Objs} {n:Nat} (xs:List Int):U8 O O' n (fl (eI .u8) xs) (fl (eI .u8) xs):=Zdi (Z6 Zcy xs)
theorem Zso {O O':Objs} {n:Nat} (xs:List Int) (b b':List G):U8 O O' n (fl (eI .u8) xs++b) (fl (eI .u8) xs++b')=U8 O O' n b b':=Zbo b b' _ (Z6 Zcy xs)
theorem Zro (xs:List Int):(fl (eI .u8) xs).length=xs.length * 1:=Q7 (f:=(eI .u8)) (k:=1) (fun _=>rfl) xs
theorem Zrz (xs:List Int):(fl (eI .u8) xs).all G.one=true:=V2 (fun x=>by simp [eI,eB,eS,eL,eP,Zfo,G.one,Value.oneCell']) xs
theorem Zsq {O O':Objs} {n:Nat} (x:Option Int):wk O O' n (gP (eI .u8) x) (gP (eI .u8) x)=True:=Zmp Zcy x
theorem Zo2 {k:Nat} (x:Option Int):(gP (eI .u8) x).under k=true:=Zbn Zcy k x
theorem Zov {ρ:Nat→Nat} (xs:List Int):G.rens ρ (fl (eI .u8) xs)=fl (eI .u8) xs:=Kb ρ _ (Z6 Zcy xs)
theorem Zou {ρ:Nat→Nat} (x:Option Int):(gP (eI .u8) x).ren ρ=gP (eI .u8) x:=Zav ρ _ (Km Zcy x)
theorem Zsl {k:Nat} (xs:List Int):G.unders k (fl (eI .u8) xs)=true:=Xp _ _ (Z6 Zcy xs)
def Ye (x:Zv):List G:=[.sl x.out.length (fl Zd x.out),.val (.int .i64 x.kept),.sl x.gone.length (fl Za x.gone),.sl x.come.length (fl Za x.come)]
theorem Xl:∀ x,G.pures (Ye x)=true:=fun x=>by simp [eI,eB,eS,eL,eP,G.pures,G.pure,Z6,Km,Ye,Ka,Y8,Y5,Xk,Q4,Zcy,Yq,Xh,Y0,Xu]
theorem Zcb {O O':Objs} {n:Nat} (xs:List Zv):U8 O O' n (fl Ye xs) (fl Ye xs):=Zdi (Z6 Xl xs)
theorem Zca {O O':Objs} {n:Nat} (xs:List Zv) (b b':List G):U8 O O' n (fl Ye xs++b) (fl Ye xs++b')=U8 O O' n b b':=Zbo b b' _ (Z6 Xl xs)
theorem Zbv (xs:List Zv):(fl Ye xs).length=xs.length * 4:=Q7 (f:=Ye) (k:=4) (fun _=>rfl) xs
theorem Zby (xs:List Zv):(fl Ye xs).all G.one=true:=V2 (fun x=>by simp [eI,eB,eS,eL,eP,Zfo,G.one,Value.oneCell',Ye]) xs
theorem Zcc {O O':Objs} {n:Nat} (x:Option Zv):wk O O' n (gP Ye x) (gP Ye x)=True:=Zmp Xl x
theorem Zbb {k:Nat} (x:Option Zv):(gP Ye x).under k=true:=Zbn Xl k x
theorem Zba {ρ:Nat→Nat} (xs:List Zv):G.rens ρ (fl Ye xs)=fl Ye xs:=Kb ρ _ (Z6 Xl xs)
theorem Za9 {ρ:Nat→Nat} (x:Option Zv):(gP Ye x).ren ρ=gP Ye x:=Zav ρ _ (Km Xl x)
theorem Zb6 {k:Nat} (xs:List Zv):G.unders k (fl Ye xs)=true:=Xp _ _ (Z6 Xl xs)
theorem Q3:∀ x,G.pures (Zn x)=true:=fun x=>by rw [← Xh];exact Zfq x
theorem Zgx {O O':Objs} {n:Nat} (xs:List Zc):U8 O O' n (fl Zn xs) (fl Zn xs):=Zdi (Z6 Q3 xs)
theorem Zgv {O O':Objs} {n:Nat} (xs:List Zc) (b b':List G):U8 O O' n (fl Zn xs++b) (fl Zn xs++b')=U8 O O' n b b':=Zbo b b' _ (Z6 Q3 xs)
theorem Zgd (xs:List Zc):(fl Zn xs).length=xs.length * 11:=Q7 (f:=Zn) (k:=11) (fun _=>rfl) xs
theorem Zgl (xs:List Zc):(fl Zn xs).all G.one=true:=V2 (fun x=>by simp [eI,eB,eS,eL,eP,Zfo,G.one,Value.oneCell',Zn]) xs
theorem Zgz {O O':Objs} {n:Nat} (x:Option Zc):wk O O' n (gP Zn x) (gP Zn x)=True:=Zmp Q3 x
theorem Zfx {k:Nat} (x:Option Zc):(gP Zn x).under k=true:=Zbn Q3 k x
theorem Zft {ρ:Nat→Nat} (xs:List Zc):G.rens ρ (fl Zn xs)=fl Zn xs:=Kb ρ _ (Z6 Q3 xs)
theorem Zfr {ρ:Nat→Nat} (x:Option Zc):(gP Zn x).ren ρ=gP Zn x:=Zav ρ _ (Km Q3 x)
theorem Zgt {k:Nat} (xs:List Zc):G.unders k (fl Zn xs)=true:=Xp _ _ (Z6 Q3 xs)
def Yi (x:Yh):List G:=[.sl x.left.length (fl Zd x.left),.val (.int .i64 x.gone)]
theorem X5:∀ x,G.pures (Yi x)=true:=fun x=>by simp [eI,eB,eS,eL,eP,G.pures,G.pure,Z6,Km,Yi,Ka,Y8,Y5,Xk,Q4,Zcy,Xl,Q3,Yq,Xh,Y0,Xu]
theorem Zdf {O O':Objs} {n:Nat} (xs:List Yh):U8 O O' n (fl Yi xs) (fl Yi xs):=Zdi (Z6 X5 xs)
theorem Zdc {O O':Objs} {n:Nat} (xs:List Yh) (b b':List G):U8 O O' n (fl Yi xs++b) (fl Yi xs++b')=U8 O O' n b b':=Zbo b b' _ (Z6 X5 xs)
theorem Zck (xs:List Yh):(fl Yi xs).length=xs.length * 2:=Q7 (f:=Yi) (k:=2) (fun _=>rfl) xs
theorem Zcu (xs:List Yh):(fl Yi xs).all G.one=true:=V2 (fun x=>by simp [eI,eB,eS,eL,eP,Zfo,G.one,Value.oneCell',Yi]) xs
theorem Zdk {O O':Objs} {n:Nat} (x:Option Yh):wk O O' n (gP Yi x) (gP Yi x)=True:=Zmp X5 x
theorem Zb7 {k:Nat} (x:Option Yh):(gP Yi x).under k=true:=Zbn X5 k x
theorem Zb3 {ρ:Nat→Nat} (xs:List Yh):G.rens ρ (fl Yi xs)=fl Yi xs:=Kb ρ _ (Z6 X5 xs)
theorem Zb0 {ρ:Nat→Nat} (x:Option Yh):(gP Yi x).ren ρ=gP Yi x:=Zav ρ _ (Km X5 x)
theorem Zc7 {k:Nat} (xs:List Yh):G.unders k (fl Yi xs)=true:=Xp _ _ (Z6 X5 xs)
def Zx (x:Z4):List G:=[.val (.int .i64 x.Of),.val (.int .i64 x.P.Kind),.val (.int .i64 x.P.N),.sl x.P.L.length (fl Za x.P.L),.val (.int .i64 x.P.E.Kind),.val (.int .i64 x.P.E.Old.Kind),.sl x.P.E.Old.Words.length (fl (eI .u64) x.P.E.Old.Words),.sl x.P.E.Old.Kids.length (fl Za x.P.E.Old.Kids),.val (.int .i64 x.P.E.New.Kind),.sl x.P.E.New.Words.length (fl (eI .u64) x.P.E.New.Words),.sl x.P.E.New.Kids.length (fl Za x.P.E.New.Kids),.sl x.P.E.Words.length (fl Zf x.P.E.Words),.sl x.P.E.Kids.length (fl Zh x.P.E.Kids),.val (.int .i64 x.P.E.List_),.sl x.P.E.Ops.length (fl Zd x.P.E.Ops),.val (.int .i64 x.Q.Kind),.val (.int .i64 x.Q.N),.sl x.Q.L.length (fl Za x.Q.L),.val (.int .i64 x.Q.E.Kind),.val (.int .i64 x.Q.E.Old.Kind),.sl x.Q.E.Old.Words.length (fl (eI .u64) x.Q.E.Old.Words),.sl x.Q.E.Old.Kids.length (fl Za x.Q.E.Old.Kids),.val (.int .i64 x.Q.E.New.Kind),.sl x.Q.E.New.Words.length (fl (eI .u64) x.Q.E.New.Words),.sl x.Q.E.New.Kids.length (fl Za x.Q.E.New.Kids),.sl x.Q.E.Words.length (fl Zf x.Q.E.Words),.sl x.Q.E.Kids.length (fl Zh x.Q.E.Kids),.val (.int .i64 x.Q.E.List_),.sl x.Q.E.Ops.length (fl Zd x.Q.E.Ops)]
theorem Q0:∀ x,G.pures (Zx x)=true:=fun x=>by simp [eI,eB,eS,eL,eP,G.pures,G.pure,Z6,Km,Zx,Ka,Y8,Y5,Xk,Q4,Zcy,Xl,Q3,X5,Yq,Xh,Y0,Xu]
theorem Zeb {O O':Objs} {n:Nat} (xs:List Z4):U8 O O' n (fl Zx xs) (fl Zx xs):=Zdi (Z6 Q0 xs)
theorem Zd9 {O O':Objs} {n:Nat} (xs:List Z4) (b b':List G):U8 O O' n (fl Zx xs++b) (fl Zx xs++b')=U8 O O' n b b':=Zbo b b' _ (Z6 Q0 xs)
theorem Zd0 (xs:List Z4):(fl Zx xs).length=xs.length * 29:=Q7 (f:=Zx) (k:=29) (fun _=>rfl) xs
theorem Zd4 (xs:List Z4):(fl Zx xs).all G.one=true:=V2 (fun x=>by simp [eI,eB,eS,eL,eP,Zfo,G.one,Value.oneCell',Zx]) xs
theorem Zed {O O':Objs} {n:Nat} (x:Option Z4):wk O O' n (gP Zx x) (gP Zx x)=True:=Zmp Q0 x
theorem Zda {k:Nat} (x:Option Z4):(gP Zx x).under k=true:=Zbn Q0 k x
theorem Zc1 {ρ:Nat→Nat} (xs:List Z4):G.rens ρ (fl Zx xs)=fl Zx xs:=Kb ρ _ (Z6 Q0 xs)
theorem Zcz {ρ:Nat→Nat} (x:Option Z4):(gP Zx x).ren ρ=gP Zx x:=Zav ρ _ (Km Q0 x)
theorem Zd6 {k:Nat} (xs:List Z4):G.unders k (fl Zx xs)=true:=Xp _ _ (Z6 Q0 xs)
def Yj (x:Zj):List G:=[.sl x.left.length (fl Za x.left),.sl x.out.length (fl Za x.out)]
theorem Jf:∀ x,G.pures (Yj x)=true:=fun x=>by simp [eI,eB,eS,eL,eP,G.pures,G.pure,Z6,Km,Yj,Ka,Y8,Y5,Xk,Q4,Zcy,Xl,Q3,X5,Q0,Yq,Xh,Y0,Xu]
theorem Zdh {O O':Objs} {n:Nat} (xs:List Zj):U8 O O' n (fl Yj xs) (fl Yj xs):=Zdi (Z6 Jf xs)
theorem Zde {O O':Objs} {n:Nat} (xs:List Zj) (b b':List G):U8 O O' n (fl Yj xs++b) (fl Yj xs++b')=U8 O O' n b b':=Zbo b b' _ (Z6 Jf xs)
theorem Zcm (xs:List Zj):(fl Yj xs).length=xs.length * 2:=Q7 (f:=Yj) (k:=2) (fun _=>rfl) xs
theorem Zcw (xs:List Zj):(fl Yj xs).all G.one=true:=V2 (fun x=>by simp [eI,eB,eS,eL,eP,Zfo,G.one,Value.oneCell',Yj]) xs
theorem Zdm {O O':Objs} {n:Nat} (x:Option Zj):wk O O' n (gP Yj x) (gP Yj x)=True:=Zmp Jf x
theorem Zb9 {k:Nat} (x:Option Zj):(gP Yj x).under k=true:=Zbn Jf k x
theorem Zb5 {ρ:Nat→Nat} (xs:List Zj):G.rens ρ (fl Yj xs)=fl Yj xs:=Kb ρ _ (Z6 Jf xs)
theorem Zb2 {ρ:Nat→Nat} (x:Option Zj):(gP Yj x).ren ρ=gP Yj x:=Zav ρ _ (Km Jf x)
theorem Zc9 {k:Nat} (xs:List Zj):G.unders k (fl Yj xs)=true:=Xp _ _ (Z6 Jf xs)
def V4 (x:Z4):List G:=[.val (.int .i64 x.Of),.val (.int .i64 x.P.Kind),.val (.int .i64 x.P.N),.sl x.P.L.length (fl Za x.P.L),.val (.int .i64 x.P.E.Kind),.val (.int .i64 x.P.E.Old.Kind),.sl x.P.E.Old.Words.length (fl (eI .u64) x.P.E.Old.Words),.sl x.P.E.Old.Kids.length (fl Za x.P.E.Old.Kids),.val (.int .i64 x.P.E.New.Kind),.sl x.P.E.New.Words.length (fl (eI .u64) x.P.E.New.Words),.sl x.P.E.New.Kids.length (fl Za x.P.E.New.Kids),.sl x.P.E.Words.length (fl Zf x.P.E.Words),.sl x.P.E.Kids.length (fl Zh x.P.E.Kids),.val (.int .i64 x.P.E.List_),.sl x.P.E.Ops.length (fl Zd x.P.E.Ops),.val (.int .i64 x.Q.Kind),.val (.int .i64 x.Q.N),.sl x.Q.L.length (fl Za x.Q.L),.val (.int .i64 x.Q.E.Kind),.val (.int .i64 x.Q.E.Old.Kind),.sl x.Q.E.Old.Words.length (fl (eI .u64) x.Q.E.Old.Words),.sl x.Q.E.Old.Kids.length (fl Za x.Q.E.Old.Kids),.val (.int .i64 x.Q.E.New.Kind),.sl x.Q.E.New.Words.length (fl (eI .u64) x.Q.E.New.Words),.sl x.Q.E.New.Kids.length (fl Za x.Q.E.New.Kids),.sl x.Q.E.Words.length (fl Zf x.Q.E.Words),.sl x.Q.E.Kids.length (fl Zh x.Q.E.Kids),.val (.int .i64 x.Q.E.List_),.sl x.Q.E.Ops.length (fl Zd x.Q.E.Ops)]
def Yy (x:Zl):List G:=[.val (.int .i64 x.Kind),.val (.int .i64 x.N),.sl x.L.length (fl Za x.L),.val (.int .i64 x.E.Kind),.val (.int .i64 x.E.Old.Kind),.sl x.E.Old.Words.length (fl (eI .u64) x.E.Old.Words),.sl x.E.Old.Kids.length (fl Za x.E.Old.Kids),.val (.int .i64 x.E.New.Kind),.sl x.E.New.Words.length (fl (eI .u64) x.E.New.Words),.sl x.E.New.Kids.length (fl Za x.E.New.Kids),.sl x.E.Words.length (fl Zf x.E.Words),.sl x.E.Kids.length (fl Zh x.E.Kids),.val (.int .i64 x.E.List_),.sl x.E.Ops.length (fl Zd x.E.Ops)]
def Gg (x:Zm):List G:=[.val (.int .i64 x.At),.val (.int .i64 x.E.Kind),.val (.int .i64 x.E.Old.Kind),.sl x.E.Old.Words.length (fl (eI .u64) x.E.Old.Words),.sl x.E.Old.Kids.length (fl Za x.E.Old.Kids),.val (.int .i64 x.E.New.Kind),.sl x.E.New.Words.length (fl (eI .u64) x.E.New.Words),.sl x.E.New.Kids.length (fl Za x.E.New.Kids),.sl x.E.Words.length (fl Zf x.E.Words),.sl x.E.Kids.length (fl Zh x.E.Kids),.val (.int .i64 x.E.List_),.sl x.E.Ops.length (fl Zd x.E.Ops)]
def Ze (x:Zc):List G:=[.val (.int .i64 x.Kind),.val (.int .i64 x.Old.Kind),.sl x.Old.Words.length (fl (eI .u64) x.Old.Words),.sl x.Old.Kids.length (fl Za x.Old.Kids),.val (.int .i64 x.New.Kind),.sl x.New.Words.length (fl (eI .u64) x.New.Words),.sl x.New.Kids.length (fl Za x.New.Kids),.sl x.Words.length (fl Zf x.Words),.sl x.Kids.length (fl Zh x.Kids),.val (.int .i64 x.List_),.sl x.Ops.length (fl Zd x.Ops)]
def Zg (x:Zb):List G:=[.val (.int .i64 x.Kind),.sl x.Words.length (fl (eI .u64) x.Words),.sl x.Kids.length (fl Za x.Kids)]
def Zal (x:Zr):List G:=[.val (.int .i64 x.At),.val (.int .u8 x.Mask),.val (.int .u64 x.Old),.val (.int .u64 x.New)]
abbrev vI (x:Int):G := .val (.int .i64 x)
abbrev vB (x:Bool):G := .val (.bool x)
abbrev nV:G := .val (.slice none 0 0)
abbrev sL {α:Type} (e:α→List G) (x:List α):G := .sl x.length (fl e x)
abbrev oR {α:Type} (t s:Nat) (e:α→List G) (x:List α):GObj:=⟨true,t,s,x.length,fl e x⟩
theorem zFn {f:FuncId} {gs:List G} {O O2:Objs} {n n2:Nat} {r:G} {fn:Func} {c:Code} (hc:∀ args w,(callFunc f args).run Try.prog w = .ok (.enter f args) w) (hf:Try.prog.funcs[f]? = some fn) (h:Und O n→O n=none→(∀ k,O (n+k)=none)→W Try.prog n c (Fin Ke fn.results.toList r n O2 n2) ⟨fn.ntmps,[],Ze6 0 gs⟩ (Zq O n []) n) (hb:fn.body=some c:=by exact rfl) (hn:gs.length≤fn.ntmps:=by exact Nat.le_of_ble_eq_true rfl) (h2:n≤n2:=by first | exact Nat.le_refl _ | omega):GTo Try.prog f gs O n r O2 n2:=Zi9 Z0 hc hf hb hn h2 fun hU=>h hU (hU.fresh _ (Nat.le_refl _)) fun k=>hU.fresh _ (Nat.le_add_right _ _)
structure Hid (p:Prop):Prop where
 get:p
structure Ar {α:Type} (a:α):Prop where
def Ar.v {α:Type} {a:α} (_:Ar a):α:=a
theorem zQ {A B:Prop} (l0:List Nat) (b:B) (e:Ar l0→Hid B→A:=by intro x0 bZ;refine Zlm x0.v (Yp Z0 [] ?_);simp only [push_cast,seval,Zi,Ar.v,hN0,hN];exact bZ.get):A:=e ⟨⟩ ⟨b⟩
theorem zQD {A B:Prop} (l0:List Nat) (l1:List (Option Bool)) (b:B) (e:Ar l0→Ar l1→Hid B→A:=by intro x0 x1 bZ;refine Zlm x0.v (Yp Z0 x1.v ?_);simp only [push_cast,seval,Zi,Ar.v,hN0,hN];(repeat (with_reducible refine And.intro (by first | (intro h0;simp only [h0,and_self];done) | (intro h0;simp only [h0,Bool.not_false,Bool.not_true,Bool.true_and,Bool.and_true,true_and,and_true,and_self,imp_self,implies_true,bne_iff_ne,ne_eq,beq_iff_eq];done) | (intros;simp_all;done) | exact True.intro) ?_));exact bZ.get):A:=e ⟨⟩ ⟨⟩ ⟨b⟩
theorem Y9 {A:Prop} (l0:List G) (e:Ar l0→A:=by intro x0;refine Ye0 ?_;(try simp only [Y1,Yc]);have h:=Option.some.inj h;subst h;refine Zyi (.inr rfl) hU x0.v (by omega) ?_;simp only [push_cast,seval,Zi,Ar.v,hN0,hN]):A:=e ⟨⟩
theorem Ky {A B:Prop} (l0:List Nat) (l1:List Bool) (b:B) (e:Ar l0→Ar l1→Hid B→A:=by intro x0 x1 bZ;refine Z89 ?_;(try simp only [Y1,Yc]);refine Zq8 x0.v x1.v ?_;simp only [push_cast,seval,Ar.v];exact bZ.get):A:=e ⟨⟩ ⟨⟩ ⟨b⟩
theorem zQd {A B:Prop} (l0:List Nat) (l1:List Nat) (l2:List Bool) (b:B) (e:Ar l0→Ar l1→Ar l2→Hid B→A:=by intro x0 x1 x2 bZ;refine Zlm x0.v (Yp Z0 [] ?_);simp only [push_cast,seval,Zi,Ar.v,hN0,hN];refine Zq8 x1.v x2.v ?_;simp only [push_cast,seval,Ar.v];exact bZ.get):A:=e ⟨⟩ ⟨⟩ ⟨⟩ ⟨b⟩
theorem Zcg {A B:Prop} (l0:List (Option Bool)) {P1:Prop} (p1:P1) {P2:Prop} (p2:P2) {P3:Prop} (p3:P3) (b:B) (e:Ar l0→P1→P2→P3→Hid B→A:=by intro x0 x1 x2 x3 bZ;refine Yp Z0 x0.v ?_;simp only [push_cast,Nat.reduceAdd,Nat.reduceSub,Nat.reduceMul,Nat.reduceLeDiff,Nat.reduceLT,Nat.reduceEqDiff,↓reduceIte,reduceCtorEq,Int.reduceBEq,Int.reduceBNe,Nat.reduceBEq,Int.reduceLE,Int.reduceLT,Int.reduceEq,Int.reduceNe,Int.reduceNeg,Nat.reduceDiv,Nat.reduceMod,Nat.reducePow,Zi,Ar.v,x1,x2,x3,hN0,hN];exact bZ.get):A:=e ⟨⟩ p1 p2 p3 ⟨b⟩
theorem zF3 {A B:Prop} {P0:Prop} (p0:P0) {P1:Prop} (p1:P1) {P2:Prop} (p2:P2) (b:B) (e:P0→P1→P2→Hid B→A:=by intro x0 x1 x2 bZ;simp only [push_cast,Nat.reduceAdd,Nat.reduceSub,Nat.reduceMul,Nat.reduceLeDiff,Nat.reduceLT,Nat.reduceEqDiff,↓reduceIte,reduceCtorEq,Int.reduceBEq,Int.reduceBNe,Nat.reduceBEq,Int.reduceLE,Int.reduceLT,Int.reduceEq,Int.reduceNe,Int.reduceNeg,Nat.reduceDiv,Nat.reduceMod,Nat.reducePow,Zi,x0,x1,x2,hN0,hN];exact bZ.get):A:=e p0 p1 p2 ⟨b⟩
theorem zD {A B:Prop} (l0:List Nat) (l1:List Bool) (b:B) (e:Ar l0→Ar l1→Hid B→A:=by intro x0 x1 bZ;refine Zq8 x0.v x1.v ?_;simp only [push_cast,seval,Ar.v];exact bZ.get):A:=e ⟨⟩ ⟨⟩ ⟨b⟩
theorem zR {A B:Prop} (b:B) (e:Hid B→A:=by intro bZ;refine Yp Z0 [] ?_;simp only [push_cast,seval,Zi,hN0,hN];exact bZ.get):A:=e ⟨b⟩
theorem zEn {A:Prop} {P0:Prop} (p0:P0) (e:P0→A:=by intro x0;have h9:=Option.some.inj x0;subst h9;refine And.intro rfl (Fit2.of (Z9 hU rfl rfl ?_) (by omega));simp only [push_cast,seval,Zi,hN0,hN]):A:=e p0
theorem zEx {A:Prop} {P0:Prop} (p0:P0) (e:P0→A:=by intro x0;refine Z88 ?_;(try simp only [Y1,Yc,↓reduceIte,Nat.reduceEqDiff]);have h9:=Option.some.inj x0;subst h9;refine And.intro (fun h=>by cases h) (And.intro rfl (Fit2.of (Z9 hU rfl rfl ?_) (by omega)));simp only [push_cast,seval,Zi,hN0,hN]):A:=e p0
theorem zCd {A B:Prop} {P0:Prop} (p0:P0) (l1:List Nat) (l2:List Bool) (b:B) (e:P0→Ar l1→Ar l2→Hid B→A:=by intro x0 x1 x2 bZ;refine Yp Z0 [] ?_;simp only [push_cast,seval,Zi,hN0,hN];refine x0.then ?_;simp only [push_cast,seval,Zi,hN0,hN];refine Zq8 x1.v x2.v ?_;simp only [push_cast,seval,Ar.v];exact bZ.get):A:=e p0 ⟨⟩ ⟨⟩ ⟨b⟩
theorem zC {A B:Prop} {P0:Prop} (p0:P0) (b:B) (e:P0→Hid B→A:=by intro x0 bZ;refine Yp Z0 [] ?_;simp only [push_cast,seval,Zi,hN0,hN];refine x0.then ?_;simp only [push_cast,seval,Zi,hN0,hN];exact bZ.get):A:=e p0 ⟨b⟩
theorem zK {A B:Prop} (b:B) (e:Hid B→A:=by intro bZ;refine Z89 ?_;(try simp only [Y1,Yc]);exact bZ.get):A:=e ⟨b⟩
theorem Zqb {A B:Prop} (l0:List (Option Bool)) {P1:Prop} (p1:P1) {P2:Prop} (p2:P2) {P3:Prop} (p3:P3) {P4:Prop} (p4:P4) (b:B) (e:Ar l0→P1→P2→P3→P4→Hid B→A:=by intro x0 x1 x2 x3 x4 bZ;refine Yp Z0 x0.v ?_;simp only [push_cast,Nat.reduceAdd,Nat.reduceSub,Nat.reduceMul,Nat.reduceLeDiff,Nat.reduceLT,Nat.reduceEqDiff,↓reduceIte,reduceCtorEq,Int.reduceBEq,Int.reduceBNe,Nat.reduceBEq,Int.reduceLE,Int.reduceLT,Int.reduceEq,Int.reduceNe,Int.reduceNeg,Nat.reduceDiv,Nat.reduceMod,Nat.reducePow,Zi,Ar.v,x1,x2,x3,x4,hN0,hN];exact bZ.get):A:=e ⟨⟩ p1 p2 p3 p4 ⟨b⟩
theorem zF4 {A B:Prop} {P0:Prop} (p0:P0) {P1:Prop} (p1:P1) {P2:Prop} (p2:P2) {P3:Prop} (p3:P3) (b:B) (e:P0→P1→P2→P3→Hid B→A:=by intro x0 x1 x2 x3 bZ;simp only [push_cast,Nat.reduceAdd,Nat.reduceSub,Nat.reduceMul,Nat.reduceLeDiff,Nat.reduceLT,Nat.reduceEqDiff,↓reduceIte,reduceCtorEq,Int.reduceBEq,Int.reduceBNe,Nat.reduceBEq,Int.reduceLE,Int.reduceLT,Int.reduceEq,Int.reduceNe,Int.reduceNeg,Nat.reduceDiv,Nat.reduceMod,Nat.reducePow,Zi,x0,x1,x2,x3,hN0,hN];exact bZ.get):A:=e p0 p1 p2 p3 ⟨b⟩
theorem zDs {A B:Prop} (l0:List Nat) (l1:List Bool) (b:B) (e:Ar l0→Ar l1→Hid B→A:=by intro x0 x1 bZ;refine Zq8 x0.v x1.v ?_;simp only [push_cast,seval,Ar.v];refine Zk ?_;exact bZ.get):A:=e ⟨⟩ ⟨⟩ ⟨b⟩
theorem zG {A B:Prop} (b:B) (e:Hid B→A:=by intro bZ;(repeat (with_reducible refine And.intro (by first | (intro h0;simp only [h0,and_self];done) | (intro h0;simp only [h0,Bool.not_false,Bool.not_true,Bool.true_and,Bool.and_true,true_and,and_true,and_self,imp_self,implies_true,bne_iff_ne,ne_eq,beq_iff_eq];done) | (intros;simp_all;done) | exact True.intro) ?_));exact bZ.get):A:=e ⟨b⟩
theorem Yc2 {A B:Prop} (l0:List (Option Bool)) {P1:Prop} (p1:P1) {P2:Prop} (p2:P2) {P3:Prop} (p3:P3) {P4:Prop} (p4:P4) {P5:Prop} (p5:P5) {P6:Prop} (p6:P6) {P7:Prop} (p7:P7) (b:B) (e:Ar l0→P1→P2→P3→P4→P5→P6→P7→Hid B→A:=by intro x0 x1 x2 x3 x4 x5 x6 x7 bZ;refine Yp Z0 x0.v ?_;simp only [push_cast,Nat.reduceAdd,Nat.reduceSub,Nat.reduceMul,Nat.reduceLeDiff,Nat.reduceLT,Nat.reduceEqDiff,↓reduceIte,reduceCtorEq,Int.reduceBEq,Int.reduceBNe,Nat.reduceBEq,Int.reduceLE,Int.reduceLT,Int.reduceEq,Int.reduceNe,Int.reduceNeg,Nat.reduceDiv,Nat.reduceMod,Nat.reducePow,Zi,Ar.v,x1,x2,x3,x4,x5,x6,x7,hN0,hN];exact bZ.get):A:=e ⟨⟩ p1 p2 p3 p4 p5 p6 p7 ⟨b⟩
theorem zF7 {A B:Prop} {P0:Prop} (p0:P0) {P1:Prop} (p1:P1) {P2:Prop} (p2:P2) {P3:Prop} (p3:P3) {P4:Prop} (p4:P4) {P5:Prop} (p5:P5) {P6:Prop} (p6:P6) (b:B) (e:P0→P1→P2→P3→P4→P5→P6→Hid B→A:=by intro x0 x1 x2 x3 x4 x5 x6 bZ;simp only [push_cast,Nat.reduceAdd,Nat.reduceSub,Nat.reduceMul,Nat.reduceLeDiff,Nat.reduceLT,Nat.reduceEqDiff,↓reduceIte,reduceCtorEq,Int.reduceBEq,Int.reduceBNe,Nat.reduceBEq,Int.reduceLE,Int.reduceLT,Int.reduceEq,Int.reduceNe,Int.reduceNeg,Nat.reduceDiv,Nat.reduceMod,Nat.reducePow,Zi,x0,x1,x2,x3,x4,x5,x6,hN0,hN];exact bZ.get):A:=e p0 p1 p2 p3 p4 p5 p6 ⟨b⟩
theorem Z73 {A:Prop} {P0:Prop} (p0:P0) {P1:Prop} (p1:P1) {P2:Prop} (p2:P2) {P3:Prop} (p3:P3) {P4:Prop} (p4:P4) (e:P0→P1→P2→P3→P4→A:=by intro x0 x1 x2 x3 x4;have h9:=Option.some.inj x0;subst h9;refine And.intro rfl (Fit2.of (Z9 hU rfl rfl ?_) (by omega));simp only [push_cast,Nat.reduceAdd,Nat.reduceSub,Nat.reduceMul,Nat.reduceLeDiff,Nat.reduceLT,Nat.reduceEqDiff,↓reduceIte,reduceCtorEq,Int.reduceBEq,Int.reduceBNe,Nat.reduceBEq,Int.reduceLE,Int.reduceLT,Int.reduceEq,Int.reduceNe,Int.reduceNeg,Nat.reduceDiv,Nat.reduceMod,Nat.reducePow,Zi,x1,x2,x3,x4,hN0,hN]):A:=e p0 p1 p2 p3 p4
theorem zRd {A B:Prop} (l0:List Nat) (l1:List Bool) (b:B) (e:Ar l0→Ar l1→Hid B→A:=by intro x0 x1 bZ;refine Yp Z0 [] ?_;simp only [push_cast,seval,Zi,hN0,hN];refine Zq8 x0.v x1.v ?_;simp only [push_cast,seval,Ar.v];exact bZ.get):A:=e ⟨⟩ ⟨⟩ ⟨b⟩
theorem zW {A B:Prop} (b:B) (e:Hid B→A:=by intro bZ;refine Ye0 ?_;(try simp only [Y1,Yc]);exact bZ.get):A:=e ⟨b⟩
theorem zEy {A:Prop} {P0:Prop} (p0:P0) (e:P0→A:=by intro x0;have h9:=Option.some.inj x0;subst h9;refine And.intro (fun h=>by cases h) (And.intro rfl (Fit2.of (Z9 hU rfl rfl ?_) (by omega)));simp only [push_cast,seval,Zi,hN0,hN]):A:=e p0
theorem zX1 {A B:Prop} {P0:Prop} (p0:P0) (b:B) (e:P0→Hid B→A:=by intro x0 bZ;simp only [push_cast,seval,Zi,x0,hN0,hN];exact bZ.get):A:=e p0 ⟨b⟩
theorem Gd {A:Prop} {P0:Prop} (p0:P0) {P1:Prop} (p1:P1) (e:P0→P1→A:=by intro x0 x1;have h9:=Option.some.inj x0;subst h9;refine And.intro rfl (Fit2.of (Z9 hU rfl rfl ?_) (by omega));simp only [push_cast,seval,Zi,x1,hN0,hN]):A:=e p0 p1
theorem zX3 {A B:Prop} {P0:Prop} (p0:P0) {P1:Prop} (p1:P1) {P2:Prop} (p2:P2) (b:B) (e:P0→P1→P2→Hid B→A:=by intro x0 x1 x2 bZ;simp only [push_cast,seval,Zi,x0,x1,x2,hN0,hN];exact bZ.get):A:=e p0 p1 p2 ⟨b⟩
theorem Zjm {A:Prop} {P0:Prop} (p0:P0) {P1:Prop} (p1:P1) {P2:Prop} (p2:P2) {P3:Prop} (p3:P3) (e:P0→P1→P2→P3→A:=by intro x0 x1 x2 x3;have h9:=Option.some.inj x0;subst h9;refine And.intro rfl (Fit2.of (Z9 hU rfl rfl ?_) (by omega));simp only [push_cast,seval,Zi,x1,x2,x3,hN0,hN]):A:=e p0 p1 p2 p3
theorem zF8 {A B:Prop} {P0:Prop} (p0:P0) {P1:Prop} (p1:P1) {P2:Prop} (p2:P2) {P3:Prop} (p3:P3) {P4:Prop} (p4:P4) {P5:Prop} (p5:P5) {P6:Prop} (p6:P6) {P7:Prop} (p7:P7) (b:B) (e:P0→P1→P2→P3→P4→P5→P6→P7→Hid B→A:=by intro x0 x1 x2 x3 x4 x5 x6 x7 bZ;simp only [push_cast,Nat.reduceAdd,Nat.reduceSub,Nat.reduceMul,Nat.reduceLeDiff,Nat.reduceLT,Nat.reduceEqDiff,↓reduceIte,reduceCtorEq,Int.reduceBEq,Int.reduceBNe,Nat.reduceBEq,Int.reduceLE,Int.reduceLT,Int.reduceEq,Int.reduceNe,Int.reduceNeg,Nat.reduceDiv,Nat.reduceMod,Nat.reducePow,Zi,x0,x1,x2,x3,x4,x5,x6,x7,hN0,hN];exact bZ.get):A:=e p0 p1 p2 p3 p4 p5 p6 p7 ⟨b⟩
theorem Yje {A:Prop} {P0:Prop} (p0:P0) {P1:Prop} (p1:P1) {P2:Prop} (p2:P2) {P3:Prop} (p3:P3) {P4:Prop} (p4:P4) {P5:Prop} (p5:P5) {P6:Prop} (p6:P6) {P7:Prop} (p7:P7) {P8:Prop} (p8:P8) (e:P0→P1→P2→P3→P4→P5→P6→P7→P8→A:=by intro x0 x1 x2 x3 x4 x5 x6 x7 x8;have h9:=Option.some.inj x0;subst h9;refine And.intro rfl (Fit2.of (Z9 hU rfl rfl ?_) (by omega));simp only [push_cast,Nat.reduceAdd,Nat.reduceSub,Nat.reduceMul,Nat.reduceLeDiff,Nat.reduceLT,Nat.reduceEqDiff,↓reduceIte,reduceCtorEq,Int.reduceBEq,Int.reduceBNe,Nat.reduceBEq,Int.reduceLE,Int.reduceLT,Int.reduceEq,Int.reduceNe,Int.reduceNeg,Nat.reduceDiv,Nat.reduceMod,Nat.reducePow,Zi,x1,x2,x3,x4,x5,x6,x7,x8,hN0,hN]):A:=e p0 p1 p2 p3 p4 p5 p6 p7 p8
theorem zX5 {A B:Prop} {P0:Prop} (p0:P0) {P1:Prop} (p1:P1) {P2:Prop} (p2:P2) {P3:Prop} (p3:P3) {P4:Prop} (p4:P4) (b:B) (e:P0→P1→P2→P3→P4→Hid B→A:=by intro x0 x1 x2 x3 x4 bZ;simp only [push_cast,seval,Zi,x0,x1,x2,x3,x4,hN0,hN];exact bZ.get):A:=e p0 p1 p2 p3 p4 ⟨b⟩
theorem Yjf {A:Prop} {P0:Prop} (p0:P0) {P1:Prop} (p1:P1) {P2:Prop} (p2:P2) {P3:Prop} (p3:P3) {P4:Prop} (p4:P4) {P5:Prop} (p5:P5) (e:P0→P1→P2→P3→P4→P5→A:=by intro x0 x1 x2 x3 x4 x5;have h9:=Option.some.inj x0;subst h9;refine And.intro rfl (Fit2.of (Z9 hU rfl rfl ?_) (by omega));simp only [push_cast,seval,Zi,x1,x2,x3,x4,x5,hN0,hN]):A:=e p0 p1 p2 p3 p4 p5
theorem zX4 {A B:Prop} {P0:Prop} (p0:P0) {P1:Prop} (p1:P1) {P2:Prop} (p2:P2) {P3:Prop} (p3:P3) (b:B) (e:P0→P1→P2→P3→Hid B→A:=by intro x0 x1 x2 x3 bZ;simp only [push_cast,seval,Zi,x0,x1,x2,x3,hN0,hN];exact bZ.get):A:=e p0 p1 p2 p3 ⟨b⟩
theorem Z74 {A:Prop} {P0:Prop} (p0:P0) {P1:Prop} (p1:P1) {P2:Prop} (p2:P2) {P3:Prop} (p3:P3) {P4:Prop} (p4:P4) (e:P0→P1→P2→P3→P4→A:=by intro x0 x1 x2 x3 x4;have h9:=Option.some.inj x0;subst h9;refine And.intro rfl (Fit2.of (Z9 hU rfl rfl ?_) (by omega));simp only [push_cast,seval,Zi,x1,x2,x3,x4,hN0,hN]):A:=e p0 p1 p2 p3 p4
theorem Yc1 {A:Prop} {P0:Prop} (p0:P0) {P1:Prop} (p1:P1) {P2:Prop} (p2:P2) {P3:Prop} (p3:P3) {P4:Prop} (p4:P4) {P5:Prop} (p5:P5) {P6:Prop} (p6:P6) {P7:Prop} (p7:P7) (e:P0→P1→P2→P3→P4→P5→P6→P7→A:=by intro x0 x1 x2 x3 x4 x5 x6 x7;have h9:=Option.some.inj x0;subst h9;refine And.intro rfl (Fit2.of (Z9 hU rfl rfl ?_) (by omega));simp only [push_cast,Nat.reduceAdd,Nat.reduceSub,Nat.reduceMul,Nat.reduceLeDiff,Nat.reduceLT,Nat.reduceEqDiff,↓reduceIte,reduceCtorEq,Int.reduceBEq,Int.reduceBNe,Nat.reduceBEq,Int.reduceLE,Int.reduceLT,Int.reduceEq,Int.reduceNe,Int.reduceNeg,Nat.reduceDiv,Nat.reduceMod,Nat.reducePow,Zi,x1,x2,x3,x4,x5,x6,x7,hN0,hN]):A:=e p0 p1 p2 p3 p4 p5 p6 p7
theorem Zk7 {A:Prop} (l0:List G) (e:Ar l0→A:=by intro x0;have h:=Option.some.inj h;subst h;refine Zyi (.inr rfl) hU x0.v (by omega) ?_;simp only [push_cast,seval,Zi,Ar.v,hN0,hN]):A:=e ⟨⟩
theorem Yk1 {A B:Prop} (l0:List Nat) {P1:Prop} (p1:P1) (b:B) (e:Ar l0→P1→Hid B→A:=by intro x0 x1 bZ;refine Zlm x0.v (Yp Z0 [] ?_);simp only [push_cast,seval,Zi,Ar.v,x1,hN0,hN];exact bZ.get):A:=e ⟨⟩ p1 ⟨b⟩
theorem Zfz {A B:Prop} (l0:List (Option Bool)) {P1:Prop} (p1:P1) {P2:Prop} (p2:P2) {P3:Prop} (p3:P3) (b:B) (e:Ar l0→P1→P2→P3→Hid B→A:=by intro x0 x1 x2 x3 bZ;refine Yp Z0 x0.v ?_;simp only [push_cast,seval,Zi,Ar.v,x1,x2,x3,hN0,hN];exact bZ.get):A:=e ⟨⟩ p1 p2 p3 ⟨b⟩
theorem U9 {A B:Prop} (l0:List (Option Bool)) {P1:Prop} (p1:P1) {P2:Prop} (p2:P2) (b:B) (e:Ar l0→P1→P2→Hid B→A:=by intro x0 x1 x2 bZ;refine Yp Z0 x0.v ?_;simp only [push_cast,seval,Zi,Ar.v,x1,x2,hN0,hN];exact bZ.get):A:=e ⟨⟩ p1 p2 ⟨b⟩
theorem Z76 {A B:Prop} (l0:List (Option Bool)) {P1:Prop} (p1:P1) {P2:Prop} (p2:P2) {P3:Prop} (p3:P3) {P4:Prop} (p4:P4) (b:B) (e:Ar l0→P1→P2→P3→P4→Hid B→A:=by intro x0 x1 x2 x3 x4 bZ;refine Yp Z0 x0.v ?_;simp only [push_cast,seval,Zi,Ar.v,x1,x2,x3,x4,hN0,hN];exact bZ.get):A:=e ⟨⟩ p1 p2 p3 p4 ⟨b⟩
theorem Q2 {A:Prop} {P0:Prop} (p0:P0) {P1:Prop} (p1:P1) (e:P0→P1→A:=by intro x0 x1;simp only [push_cast,seval,Zi,x0,x1,hN0,hN]):A:=e p0 p1
theorem zX2 {A B:Prop} {P0:Prop} (p0:P0) {P1:Prop} (p1:P1) (b:B) (e:P0→P1→Hid B→A:=by intro x0 x1 bZ;simp only [push_cast,seval,Zi,x0,x1,hN0,hN];exact bZ.get):A:=e p0 p1 ⟨b⟩
theorem Zjl {A:Prop} {P0:Prop} (p0:P0) {P1:Prop} (p1:P1) {P2:Prop} (p2:P2) (e:P0→P1→P2→A:=by intro x0 x1 x2;have h9:=Option.some.inj x0;subst h9;refine And.intro rfl (Fit2.of (Z9 hU rfl rfl ?_) (by omega));simp only [push_cast,seval,Zi,x1,x2,hN0,hN]):A:=e p0 p1 p2
theorem Zbp {A B:Prop} (l0:List (Option Bool)) {P1:Prop} (p1:P1) (b:B) (e:Ar l0→P1→Hid B→A:=by intro x0 x1 bZ;refine Yp Z0 x0.v ?_;simp only [push_cast,seval,Zi,Ar.v,x1,hN0,hN];exact bZ.get):A:=e ⟨⟩ p1 ⟨b⟩
theorem Yk2 {A:Prop} {P0:Prop} (p0:P0) {P1:Prop} (p1:P1) {P2:Prop} (p2:P2) {P3:Prop} (p3:P3) (e:P0→P1→P2→P3→A:=by intro x0 x1 x2 x3;simp only [push_cast,seval,Zi,x0,x1,x2,x3,hN0,hN]):A:=e p0 p1 p2 p3
theorem zSe {A:Prop} (e:A:=by simp only [push_cast,seval,Zi,hN0,hN]):A:=e
theorem Yjh {A B:Prop} (l0:List Nat) {P1:Prop} (p1:P1) {P2:Prop} (p2:P2) {P3:Prop} (p3:P3) {P4:Prop} (p4:P4) (b:B) (e:Ar l0→P1→P2→P3→P4→Hid B→A:=by intro x0 x1 x2 x3 x4 bZ;refine Zlm x0.v (Yp Z0 [] ?_);simp only [push_cast,seval,Zi,Ar.v,x1,x2,x3,x4,hN0,hN];exact bZ.get):A:=e ⟨⟩ p1 p2 p3 p4 ⟨b⟩
theorem Z75 {A B:Prop} (l0:List (Option Bool)) {P1:Prop} (p1:P1) {P2:Prop} (p2:P2) {P3:Prop} (p3:P3) {P4:Prop} (p4:P4) {P5:Prop} (p5:P5) (b:B) (e:Ar l0→P1→P2→P3→P4→P5→Hid B→A:=by intro x0 x1 x2 x3 x4 x5 bZ;refine Yp Z0 x0.v ?_;simp only [push_cast,Nat.reduceAdd,Nat.reduceSub,Nat.reduceMul,Nat.reduceLeDiff,Nat.reduceLT,Nat.reduceEqDiff,↓reduceIte,reduceCtorEq,Int.reduceBEq,Int.reduceBNe,Nat.reduceBEq,Int.reduceLE,Int.reduceLT,Int.reduceEq,Int.reduceNe,Int.reduceNeg,Nat.reduceDiv,Nat.reduceMod,Nat.reducePow,Zi,Ar.v,x1,x2,x3,x4,x5,hN0,hN];exact bZ.get):A:=e ⟨⟩ p1 p2 p3 p4 p5 ⟨b⟩
theorem Yjd {A:Prop} {P0:Prop} (p0:P0) {P1:Prop} (p1:P1) {P2:Prop} (p2:P2) {P3:Prop} (p3:P3) {P4:Prop} (p4:P4) {P5:Prop} (p5:P5) (e:P0→P1→P2→P3→P4→P5→A:=by intro x0 x1 x2 x3 x4 x5;have h9:=Option.some.inj x0;subst h9;refine And.intro rfl (Fit2.of (Z9 hU rfl rfl ?_) (by omega));simp only [push_cast,Nat.reduceAdd,Nat.reduceSub,Nat.reduceMul,Nat.reduceLeDiff,Nat.reduceLT,Nat.reduceEqDiff,↓reduceIte,reduceCtorEq,Int.reduceBEq,Int.reduceBNe,Nat.reduceBEq,Int.reduceLE,Int.reduceLT,Int.reduceEq,Int.reduceNe,Int.reduceNeg,Nat.reduceDiv,Nat.reduceMod,Nat.reducePow,Zi,x1,x2,x3,x4,x5,hN0,hN]):A:=e p0 p1 p2 p3 p4 p5
theorem zS {A B:Prop} (b:B) (e:Hid B→A:=by intro bZ;simp only [push_cast,seval,Zi,hN0,hN];exact bZ.get):A:=e ⟨b⟩
theorem zTs {A B:Prop} {P0:Prop} (p0:P0) (b:B) (e:P0→Hid B→A:=by intro x0 bZ;refine x0.then ?_;simp only [push_cast,seval,Zi,hN0,hN];exact bZ.get):A:=e p0 ⟨b⟩
theorem Zbd {A B:Prop} (l0:List Nat) {P1:Prop} (p1:P1) {P2:Prop} (p2:P2) (b:B) (e:Ar l0→P1→P2→Hid B→A:=by intro x0 x1 x2 bZ;refine Zlm x0.v (Yp Z0 [] ?_);simp only [push_cast,seval,Zi,Ar.v,x1,x2,hN0,hN];exact bZ.get):A:=e ⟨⟩ p1 p2 ⟨b⟩
theorem zF9 {A B:Prop} {P0:Prop} (p0:P0) {P1:Prop} (p1:P1) {P2:Prop} (p2:P2) {P3:Prop} (p3:P3) {P4:Prop} (p4:P4) {P5:Prop} (p5:P5) {P6:Prop} (p6:P6) {P7:Prop} (p7:P7) {P8:Prop} (p8:P8) (b:B) (e:P0→P1→P2→P3→P4→P5→P6→P7→P8→Hid B→A:=by intro x0 x1 x2 x3 x4 x5 x6 x7 x8 bZ;simp only [push_cast,Nat.reduceAdd,Nat.reduceSub,Nat.reduceMul,Nat.reduceLeDiff,Nat.reduceLT,Nat.reduceEqDiff,↓reduceIte,reduceCtorEq,Int.reduceBEq,Int.reduceBNe,Nat.reduceBEq,Int.reduceLE,Int.reduceLT,Int.reduceEq,Int.reduceNe,Int.reduceNeg,Nat.reduceDiv,Nat.reduceMod,Nat.reducePow,Zi,x0,x1,x2,x3,x4,x5,x6,x7,x8,hN0,hN];exact bZ.get):A:=e p0 p1 p2 p3 p4 p5 p6 p7 p8 ⟨b⟩
theorem zO {A B:Prop} (b:B) (e:Hid B→A:=by intro bZ;(repeat (with_reducible refine And.intro (by first | omega | exact K6 rfl | exact Jy | exact Z8a rfl | exact Z14 rfl rfl | exact Zt8 rfl | exact Z13 rfl) ?_));exact bZ.get):A:=e ⟨b⟩
theorem Z34 {A:Prop} {P0:Prop} (p0:P0) {P1:Prop} (p1:P1) {P2:Prop} (p2:P2) {P3:Prop} (p3:P3) {P4:Prop} (p4:P4) {P5:Prop} (p5:P5) {P6:Prop} (p6:P6) {P7:Prop} (p7:P7) {P8:Prop} (p8:P8) (e:P0→P1→P2→P3→P4→P5→P6→P7→P8→A:=by intro x0 x1 x2 x3 x4 x5 x6 x7 x8;simp only [push_cast,Nat.reduceAdd,Nat.reduceSub,Nat.reduceMul,Nat.reduceLeDiff,Nat.reduceLT,Nat.reduceEqDiff,↓reduceIte,reduceCtorEq,Int.reduceBEq,Int.reduceBNe,Nat.reduceBEq,Int.reduceLE,Int.reduceLT,Int.reduceEq,Int.reduceNe,Int.reduceNeg,Nat.reduceDiv,Nat.reduceMod,Nat.reducePow,Zi,x0,x1,x2,x3,x4,x5,x6,x7,x8,hN0,hN]):A:=e p0 p1 p2 p3 p4 p5 p6 p7 p8
theorem zXt {A B:Prop} (b:B) (e:Hid B→A:=by intro bZ;refine Z88 ?_;(try simp only [Y1,Yc,↓reduceIte,Nat.reduceEqDiff]);exact bZ.get):A:=e ⟨b⟩
theorem Zxh {A:Prop} {P0:Prop} (p0:P0) {P1:Prop} (p1:P1) {P2:Prop} (p2:P2) (e:P0→P1→P2→A:=by intro x0 x1 x2;simp only [push_cast,seval,Zi,x0,x1,x2,hN0,hN]):A:=e p0 p1 p2
theorem zF5 {A B:Prop} {P0:Prop} (p0:P0) {P1:Prop} (p1:P1) {P2:Prop} (p2:P2) {P3:Prop} (p3:P3) {P4:Prop} (p4:P4) (b:B) (e:P0→P1→P2→P3→P4→Hid B→A:=by intro x0 x1 x2 x3 x4 bZ;simp only [push_cast,Nat.reduceAdd,Nat.reduceSub,Nat.reduceMul,Nat.reduceLeDiff,Nat.reduceLT,Nat.reduceEqDiff,↓reduceIte,reduceCtorEq,Int.reduceBEq,Int.reduceBNe,Nat.reduceBEq,Int.reduceLE,Int.reduceLT,Int.reduceEq,Int.reduceNe,Int.reduceNeg,Nat.reduceDiv,Nat.reduceMod,Nat.reducePow,Zi,x0,x1,x2,x3,x4,hN0,hN];exact bZ.get):A:=e p0 p1 p2 p3 p4 ⟨b⟩
theorem zF6 {A B:Prop} {P0:Prop} (p0:P0) {P1:Prop} (p1:P1) {P2:Prop} (p2:P2) {P3:Prop} (p3:P3) {P4:Prop} (p4:P4) {P5:Prop} (p5:P5) (b:B) (e:P0→P1→P2→P3→P4→P5→Hid B→A:=by intro x0 x1 x2 x3 x4 x5 bZ;simp only [push_cast,Nat.reduceAdd,Nat.reduceSub,Nat.reduceMul,Nat.reduceLeDiff,Nat.reduceLT,Nat.reduceEqDiff,↓reduceIte,reduceCtorEq,Int.reduceBEq,Int.reduceBNe,Nat.reduceBEq,Int.reduceLE,Int.reduceLT,Int.reduceEq,Int.reduceNe,Int.reduceNeg,Nat.reduceDiv,Nat.reduceMod,Nat.reducePow,Zi,x0,x1,x2,x3,x4,x5,hN0,hN];exact bZ.get):A:=e p0 p1 p2 p3 p4 p5 ⟨b⟩
theorem Yc3 {A B:Prop} (l0:List (Option Bool)) {P1:Prop} (p1:P1) {P2:Prop} (p2:P2) {P3:Prop} (p3:P3) {P4:Prop} (p4:P4) {P5:Prop} (p5:P5) {P6:Prop} (p6:P6) (b:B) (e:Ar l0→P1→P2→P3→P4→P5→P6→Hid B→A:=by intro x0 x1 x2 x3 x4 x5 x6 bZ;refine Yp Z0 x0.v ?_;simp only [push_cast,seval,Zi,Ar.v,x1,x2,x3,x4,x5,x6,hN0,hN];exact bZ.get):A:=e ⟨⟩ p1 p2 p3 p4 p5 p6 ⟨b⟩
theorem Yjm {A:Prop} {P0:Prop} (p0:P0) {P1:Prop} (p1:P1) {P2:Prop} (p2:P2) {P3:Prop} (p3:P3) {P4:Prop} (p4:P4) {P5:Prop} (p5:P5) (e:P0→P1→P2→P3→P4→P5→A:=by intro x0 x1 x2 x3 x4 x5;simp only [push_cast,seval,Zi,x0,x1,x2,x3,x4,x5,hN0,hN]):A:=e p0 p1 p2 p3 p4 p5
theorem zX6 {A B:Prop} {P0:Prop} (p0:P0) {P1:Prop} (p1:P1) {P2:Prop} (p2:P2) {P3:Prop} (p3:P3) {P4:Prop} (p4:P4) {P5:Prop} (p5:P5) (b:B) (e:P0→P1→P2→P3→P4→P5→Hid B→A:=by intro x0 x1 x2 x3 x4 x5 bZ;simp only [push_cast,seval,Zi,x0,x1,x2,x3,x4,x5,hN0,hN];exact bZ.get):A:=e p0 p1 p2 p3 p4 p5 ⟨b⟩
theorem zEf {A:Prop} (e:A:=by refine And.intro rfl (Fit2.of (Z9 hU rfl rfl ?_) (by omega));simp only [push_cast,seval,Zi,hN0,hN]):A:=e
theorem Yjj {A B:Prop} (l0:List (Option Bool)) {P1:Prop} (p1:P1) {P2:Prop} (p2:P2) {P3:Prop} (p3:P3) {P4:Prop} (p4:P4) {P5:Prop} (p5:P5) (b:B) (e:Ar l0→P1→P2→P3→P4→P5→Hid B→A:=by intro x0 x1 x2 x3 x4 x5 bZ;refine Yp Z0 x0.v ?_;simp only [push_cast,seval,Zi,Ar.v,x1,x2,x3,x4,x5,hN0,hN];exact bZ.get):A:=e ⟨⟩ p1 p2 p3 p4 p5 ⟨b⟩
theorem Yjl {A:Prop} {P0:Prop} (p0:P0) {P1:Prop} (p1:P1) {P2:Prop} (p2:P2) {P3:Prop} (p3:P3) {P4:Prop} (p4:P4) (e:P0→P1→P2→P3→P4→A:=by intro x0 x1 x2 x3 x4;simp only [push_cast,seval,Zi,x0,x1,x2,x3,x4,hN0,hN]):A:=e p0 p1 p2 p3 p4
theorem Yji {A B:Prop} (l0:List (Option Bool)) {P1:Prop} (p1:P1) {P2:Prop} (p2:P2) {P3:Prop} (p3:P3) {P4:Prop} (p4:P4) {P5:Prop} (p5:P5) {P6:Prop} (p6:P6) (b:B) (e:Ar l0→P1→P2→P3→P4→P5→P6→Hid B→A:=by intro x0 x1 x2 x3 x4 x5 x6 bZ;refine Yp Z0 x0.v ?_;simp only [push_cast,Nat.reduceAdd,Nat.reduceSub,Nat.reduceMul,Nat.reduceLeDiff,Nat.reduceLT,Nat.reduceEqDiff,↓reduceIte,reduceCtorEq,Int.reduceBEq,Int.reduceBNe,Nat.reduceBEq,Int.reduceLE,Int.reduceLT,Int.reduceEq,Int.reduceNe,Int.reduceNeg,Nat.reduceDiv,Nat.reduceMod,Nat.reducePow,Zi,Ar.v,x1,x2,x3,x4,x5,x6,hN0,hN];exact bZ.get):A:=e ⟨⟩ p1 p2 p3 p4 p5 p6 ⟨b⟩
theorem Yjg {A:Prop} {P0:Prop} (p0:P0) {P1:Prop} (p1:P1) {P2:Prop} (p2:P2) {P3:Prop} (p3:P3) {P4:Prop} (p4:P4) {P5:Prop} (p5:P5) (e:P0→P1→P2→P3→P4→P5→A:=by intro x0 x1 x2 x3 x4 x5;simp only [push_cast,Nat.reduceAdd,Nat.reduceSub,Nat.reduceMul,Nat.reduceLeDiff,Nat.reduceLT,Nat.reduceEqDiff,↓reduceIte,reduceCtorEq,Int.reduceBEq,Int.reduceBNe,Nat.reduceBEq,Int.reduceLE,Int.reduceLT,Int.reduceEq,Int.reduceNe,Int.reduceNeg,Nat.reduceDiv,Nat.reduceMod,Nat.reducePow,Zi,x0,x1,x2,x3,x4,x5,hN0,hN]):A:=e p0 p1 p2 p3 p4 p5
theorem zRo {A B:Prop} (l0:List (Option Bool)) (b:B) (e:Ar l0→Hid B→A:=by intro x0 bZ;refine Yp Z0 x0.v ?_;simp only [push_cast,seval,Zi,Ar.v,hN0,hN];exact bZ.get):A:=e ⟨⟩ ⟨b⟩
theorem Yjk {A B:Prop} (l0:List (Option Bool)) {P1:Prop} (p1:P1) {P2:Prop} (p2:P2) {P3:Prop} (p3:P3) {P4:Prop} (p4:P4) {P5:Prop} (p5:P5) {P6:Prop} (p6:P6) {P7:Prop} (p7:P7) (b:B) (e:Ar l0→P1→P2→P3→P4→P5→P6→P7→Hid B→A:=by intro x0 x1 x2 x3 x4 x5 x6 x7 bZ;refine Yp Z0 x0.v ?_;simp only [push_cast,seval,Zi,Ar.v,x1,x2,x3,x4,x5,x6,x7,hN0,hN];exact bZ.get):A:=e ⟨⟩ p1 p2 p3 p4 p5 p6 p7 ⟨b⟩
end Go.Proofs.Ytibgpnmmgffgeaa
