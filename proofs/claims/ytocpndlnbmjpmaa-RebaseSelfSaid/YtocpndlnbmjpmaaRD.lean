/- Part RD of this seat's mirrors: functions of the seat's program, and the plain functions that they are; each theorem bears its own conditions. -/
import Derived.Test.YtocpndlnbmjpmaaH27
import Derived.Test.YtocpndlnbmjpmaaTy
namespace Go.Proofs.Ytocpndlnbmjpmaa
open Go.RowKit
set_option linter.unusedVariables false
set_option linter.unusedSimpArgs false
set_option maxRecDepth 100000
set_option maxHeartbeats 4000000
structure Zb where
 Kind:Int
 Words:(List Int)
 Kids:(List Zb)
noncomputable def Qs (Q0:(Zb→Int→Int→Option Int)) (a0:Zb) (a1:Int) (s0_:(Int×Int)):Option ((Int×Int) ⊕ Int) :=
 cond (cond (decide (s0_.2 < (a0.Kids.length:Int))) (decide (0≤s0_.1)) false) ((Xg a0.Kids s0_.2).bind fun x1=>(Q0 x1 (IntKind.i64.wrap (a1 - 1)) s0_.1).bind fun y2=>some (.inl (y2,(IntKind.i64.wrap (s0_.2+1))))) (some (.inr s0_.1))
noncomputable def Qx (Q0:(Zb→Int→Int→Option Int)) (a0:Zb) (a1:Int) (a2:Int):Option Int :=
 cond (cond (a1 == 0) true (decide ((IntKind.i64.wrap ((IntKind.i64.wrap (a2 - 1)) - (a0.Words.length:Int))) < 0))) (some (-1)) ((Z9 (Qs Q0 a0 a1) ((IntKind.i64.wrap ((IntKind.i64.wrap (a2 - 1)) - (a0.Words.length:Int))),0)).bind fun (z4:Int)=>some z4)
noncomputable def Xc:Nat→(Zb→Int→Int→Option Int)
 | 0=>(fun _ _ _=>none)
 | k+1=>Qx ((Xc k))
noncomputable def K6 (a0:Zb) (a1:Int) (a2:Int):Option Int:=lim fun k=>(Xc k) a0 a1 a2
structure Zp where
 At:Int
 Mask:Int
 Old:Int
 New:Int
mutual
structure Zg where
 Kind:Int
 Old:Zb
 New:Zb
 Words:(List Zp)
 Kids:(List Zm)
 List_:Int
 Ops:(List Zl)
structure Zl where
 Kind:Int
 N:Int
 L:(List Zb)
 E:Zg
structure Zm where
 At:Int
 E:Zg
end
noncomputable def Jq (Qi:(Zg→Int→Int→Option Int)) (a0:Zg) (a1:Int) (s0_:(Int×Int)):Option ((Int×Int) ⊕ Int) :=
 cond (cond (decide (s0_.2 < (a0.Kids.length:Int))) (decide (0≤s0_.1)) false) ((Xg a0.Kids s0_.2).bind fun x6=>(Qi x6.E (IntKind.i64.wrap (a1 - 1)) s0_.1).bind fun y8=>some (.inl (y8,(IntKind.i64.wrap (s0_.2+1))))) (some (.inr s0_.1))
noncomputable def Uh (a0:Zg) (s1_:(Int×Int)) (s2_:(Int×Int)):Option ((Int×Int) ⊕ Int) :=
 (Xg a0.Ops s1_.2).bind fun x14=>cond (cond (decide (s2_.2 < (x14.L.length:Int))) (decide (0≤s2_.1)) false) ((Xg a0.Ops s1_.2).bind fun x16=>(Xg x16.L s2_.2).bind fun x18=>(K6 x18 80 s2_.1).bind fun y19=>some (.inl (y19,(IntKind.i64.wrap (s2_.2+1))))) (some (.inr s2_.1))
noncomputable def Jr (Qi:(Zg→Int→Int→Option Int)) (a0:Zg) (a1:Int) (s1_:(Int×Int)):Option ((Int×Int) ⊕ Int) :=
 cond (cond (decide (s1_.2 < (a0.Ops.length:Int))) (decide (0≤s1_.1)) false) (((Z9 (Uh a0 s1_) (s1_.1,0)).bind fun (z21:Int)=>cond (decide (0≤z21)) ((Xg a0.Ops s1_.2).bind fun x22=>(Qi x22.E (IntKind.i64.wrap (a1 - 1)) z21).bind fun y24=>some y24) (some z21)).bind fun (z11:Int)=>some (.inl (z11,(IntKind.i64.wrap (s1_.2+1))))) (some (.inr s1_.1))
noncomputable def J8 (Qi:(Zg→Int→Int→Option Int)) (a0:Zg) (a1:Int) (a2:Int):Option Int :=
 cond (cond (a1 == 0) true (decide ((IntKind.i64.wrap ((IntKind.i64.wrap ((IntKind.i64.wrap (a2 - 1)) - (a0.Words.length:Int))) - (a0.Ops.length:Int))) < 0))) (some (-1)) ((K6 a0.Old 80 (IntKind.i64.wrap ((IntKind.i64.wrap ((IntKind.i64.wrap (a2 - 1)) - (a0.Words.length:Int))) - (a0.Ops.length:Int)))).bind fun y2=>(cond (decide (0≤y2)) ((K6 a0.New 80 y2).bind fun y4=>some y4) (some y2)).bind fun (z3:Int)=>(Z9 (Jq Qi a0 a1) (z3,0)).bind fun (z10:Int)=>(Z9 (Jr Qi a0 a1) (z10,0)).bind fun (z27:Int)=>some z27)
noncomputable def Y5:Nat→(Zg→Int→Int→Option Int)
 | 0=>(fun _ _ _=>none)
 | k+1=>J8 ((Y5 k))
noncomputable def Zfu (a0:Zg) (a1:Int) (a2:Int):Option Int:=lim fun k=>(Y5 k) a0 a1 a2
noncomputable def Zcn (a0:Zg):Option Bool :=
 (Zfu a0 80 3000).bind fun y2=>some (decide (0≤y2))
noncomputable def Ki (a0:Zb):Option Bool :=
 some (cond (a0.Kind == 0) ((IntKind.i64.wrap ((a0.Words.length:Int)+(a0.Kids.length:Int))) == 0) false)
noncomputable def Ze0 (a0:Int):Option Int :=
 cond (a0 == 0) (some 0) (cond (a0 == 1) (some 1) (cond (a0 == 2) (some 8) (cond (a0 == 3) (some 16) (cond (a0 == 4) (some 32) (cond (a0 == 5) (some 64) (some (-1)))))))
noncomputable def Qz (y2:Int) (s0_:(Int×Int)):Option ((Int×Int) ⊕ Int) :=
 cond (decide (s0_.2 < y2)) (some (.inl ((IntKind.u64.wrap (Int.tdiv s0_.1 2)),(IntKind.i64.wrap (s0_.2+1))))) (some (.inr s0_.1))
noncomputable def U2 (a0:Int) (a1:Int):Option Bool :=
 (Ze0 a0).bind fun y2=>cond (decide (y2 < 0)) (some false) ((Z9 (Qz y2) (a1,0)).bind fun (z4:Int)=>some (z4 == 0))
noncomputable def Vy (Jw:(Zb→Int→Option Bool)) (a0:Zb) (a1:Int) (s0_:Int):Option (Int ⊕ (Unit ⊕ Unit)) :=
 cond (decide (s0_ < (a0.Kids.length:Int))) ((Xg a0.Kids s0_).bind fun x2=>(Jw x2 (IntKind.i64.wrap (a1 - 1))).bind fun y4=>cond (!y4) (some (.inr (.inl ()))) ((cond ((cond (decide (2≤a0.Kind)) (decide (a0.Kind≤7)) false) != (x2.Kind == 10)) (some true) (cond (a0.Kind == 9) (cond (x2.Kind != 1) (some true) (cond (decide (2≤a0.Kind)) (cond (decide (a0.Kind≤7)) ((Xg x2.Words 0).bind fun x14=>(U2 (IntKind.i64.wrap (a0.Kind - 2)) x14).bind fun y15=>some (cond (cond ((cond (decide (2≤a0.Kind)) (decide (a0.Kind≤7)) false) != (x2.Kind == 10)) true (cond (a0.Kind == 9) (x2.Kind != 1) false)) true (cond (cond (decide (2≤a0.Kind)) (decide (a0.Kind≤7)) false) (!y15) false))) (some (cond (cond ((cond (decide (2≤a0.Kind)) (decide (a0.Kind≤7)) false) != (x2.Kind == 10)) true (cond (a0.Kind == 9) (x2.Kind != 1) false)) true false))) (some (cond (cond ((cond (decide (2≤a0.Kind)) (decide (a0.Kind≤7)) false) != (x2.Kind == 10)) true (cond (a0.Kind == 9) (x2.Kind != 1) false)) true false)))) (cond (decide (2≤a0.Kind)) (cond (decide (a0.Kind≤7)) ((Xg x2.Words 0).bind fun x16=>(U2 (IntKind.i64.wrap (a0.Kind - 2)) x16).bind fun y17=>some (cond (cond ((cond (decide (2≤a0.Kind)) (decide (a0.Kind≤7)) false) != (x2.Kind == 10)) true (cond (a0.Kind == 9) (x2.Kind != 1) false)) true (cond (cond (decide (2≤a0.Kind)) (decide (a0.Kind≤7)) false) (!y17) false))) (some (cond (cond ((cond (decide (2≤a0.Kind)) (decide (a0.Kind≤7)) false) != (x2.Kind == 10)) true (cond (a0.Kind == 9) (x2.Kind != 1) false)) true false))) (some (cond (cond ((cond (decide (2≤a0.Kind)) (decide (a0.Kind≤7)) false) != (x2.Kind == 10)) true (cond (a0.Kind == 9) (x2.Kind != 1) false)) true false))))).bind fun (z9:Bool)=>cond z9 (some (.inr (.inl ()))) (some (.inl (IntKind.i64.wrap (s0_+1)))))) (some (.inr (.inr ())))
noncomputable def G4 (Jw:(Zb→Int→Option Bool)) (a0:Zb) (a1:Int):Option Bool :=
 cond (a0.Kind == 0) (some (cond ((a0.Words.length:Int) == 0) ((a0.Kids.length:Int) == 0) false)) (cond (a0.Kind == 10) (some (cond ((a0.Words.length:Int) == 1) ((a0.Kids.length:Int) == 0) false)) (cond (cond (cond (cond (cond (cond (decide (a0.Kind < 0)) true (decide (10 < a0.Kind))) true (a1 == 0)) true (decide (65536≤(a0.Words.length:Int)))) true (cond (a0.Kind == 1) (decide (65536≤(a0.Kids.length:Int))) false)) true (decide (1048576≤(a0.Kids.length:Int)))) (some false) (cond (cond (decide (1 < a0.Kind)) (decide (0 < (a0.Words.length:Int))) false) (some false) ((Z9 (Vy Jw a0 a1) 0).bind fun (z28:(Unit ⊕ Unit))=>match z28 with | .inl z28=>some false | .inr z28=>some true))))
noncomputable def J6:Nat→(Zb→Int→Option Bool)
 | 0=>(fun _ _=>none)
 | k+1=>G4 ((J6 k))
noncomputable def Za7 (a0:Zb) (a1:Int):Option Bool:=lim fun k=>(J6 k) a0 a1
noncomputable def V1 (s0_:(Int×Int×(Arr Int 8))):Option ((Int×Int×(Arr Int 8)) ⊕ (Arr Int 8)) :=
 cond (decide (s0_.2.1 < 8)) ((Xg s0_.2.2.1 s0_.2.1).bind fun x15=>some (.inl ((IntKind.u64.wrap (Int.tdiv s0_.1 256)),(IntKind.i64.wrap (s0_.2.1+1)),(Arr.put s0_.2.2 s0_.2.1 (IntKind.u8.wrap (Int.tmod s0_.1 256)))))) (some (.inr s0_.2.2))
noncomputable def V6 (a0:Int):Option (Arr Int 8) :=
 ((some (⟨[0,0,0,0,0,0,0,0],rfl⟩:(Arr Int 8)))).bind fun y3=>((some (⟨[0,0,0,0,0,0,0,0],rfl⟩:(Arr Int 8)))).bind fun y9=>(Z9 (V1) (a0,0,y9)).bind fun (z18:(Arr Int 8))=>some z18
noncomputable def Kt (a1:Int) (s0_:(Int×Int)):Option ((Int×Int) ⊕ Int) :=
 cond (decide (s0_.2 < a1)) (some (.inl ((IntKind.u8.wrap (Int.tdiv s0_.1 2)),(IntKind.i64.wrap (s0_.2+1))))) (some (.inr s0_.1))
noncomputable def Za5 (a0:Int) (a1:Int):Option Bool :=
 (Z9 (Kt a1) (a0,0)).bind fun (z2:Int)=>some ((Int.tmod z2 2) == 1)
noncomputable def Za6 (a0:(List Int)) (a1:Int) (s0_:(Int×Int)):Option ((Int×Int) ⊕ Int) :=
 cond (decide (0≤s0_.2)) ((Xg a0 (IntKind.i64.wrap (a1+s0_.2))).bind fun x1=>some (.inl ((IntKind.u64.wrap ((IntKind.u64.wrap (s0_.1 * 256))+(IntKind.u64.wrap x1))),(IntKind.i64.wrap (s0_.2 - 1))))) (some (.inr s0_.1))
noncomputable def Zev (a0:(List Int)) (a1:Int):Option Int :=
 (Z9 (Za6 a0 a1) (0,7)).bind fun (z3:Int)=>some z3
noncomputable def Gp (a2:Int) (y9:(Arr Int 8)) (s0_:(Int×(Arr Int 8))):Option ((Int×(Arr Int 8)) ⊕ (Arr Int 8)) :=
 cond (decide (s0_.1 < 8)) (((Za5 a2 s0_.1).bind fun y17=>cond y17 ((Xg y9.1 s0_.1).bind fun x18=>(Xg s0_.2.1 s0_.1).bind fun x19=>some (Arr.put s0_.2 s0_.1 x18)) (some s0_.2)).bind fun (z15:(Arr Int 8))=>some (.inl ((IntKind.i64.wrap (s0_.1+1)),z15))) (some (.inr s0_.2))
noncomputable def Zcm (a0:Int) (a1:Int) (a2:Int):Option Int :=
 (V6 a0).bind fun y8=>(V6 a1).bind fun y9=>((some (⟨[0,0,0,0,0,0,0,0],rfl⟩:(Arr Int 8)))).bind fun y10=>(Z9 (Gp a2 y9) (0,y8)).bind fun (z23:(Arr Int 8))=>(Zev z23.1 0).bind fun y29=>some y29
noncomputable def Vn (a0:Int) (a1:Int):Option Bool :=
 (Zcm a0 0 a1).bind fun y2=>some (y2 == 0)
noncomputable def U3 (a0:Zg):Option Bool :=
 (cond (a0.Kind == 0) ((Ki a0.Old).bind fun y6=>cond y6 ((Ki a0.New).bind fun y7=>some (cond (cond (cond (cond (a0.Kind == 0) y6 false) y7 false) ((IntKind.i64.wrap ((IntKind.i64.wrap ((a0.Words.length:Int)+(a0.Kids.length:Int)))+(a0.Ops.length:Int))) == 0) false) (a0.List_ == 0) false)) (some false)) (some false)).bind fun (z3:Bool)=>some z3
noncomputable def K8 (a0:Zg) (s0_:(Int×Int×Int)):Option ((Int×Int×Int) ⊕ (Int×Int)) :=
 cond (decide (s0_.2.2 < (a0.Ops.length:Int))) (((Xg a0.Ops s0_.2.2).bind fun x3=>(cond (x3.Kind == 3) (some 1) (some (IntKind.i64.wrap (x3.N+(x3.L.length:Int))))).bind fun (z4:Int)=>(cond (x3.Kind != 2) (some (IntKind.i64.wrap (s0_.1+z4))) (some s0_.1)).bind fun (z6:Int)=>(cond (x3.Kind != 1) (some (IntKind.i64.wrap (s0_.2.1+z4))) (some s0_.2.1)).bind fun (z8:Int)=>(cond (decide (1048576 < z6)) (some 1048576) (some z6)).bind fun (z10:Int)=>cond (decide (1048576 < z8)) (some (z10,1048576)) (some (z10,z8))).bind fun (z1:(Int×Int))=>some (.inl (z1.1,z1.2,(IntKind.i64.wrap (s0_.2.2+1))))) (some (.inr (s0_.1,s0_.2.1)))
noncomputable def K7 (a0:Zg):Option (Int×Int) :=
 (Z9 (K8 a0) (0,0,0)).bind fun (z14:(Int×Int))=>some (z14.1,z14.2)
noncomputable def Kr (a0:Zg) (s0_:(Int×Int)):Option ((Int×Int) ⊕ (Unit ⊕ Unit)) :=
 cond (decide (s0_.2 < (a0.Words.length:Int))) ((Xg a0.Words s0_.2).bind fun x19=>(cond (decide (x19.At≤s0_.1)) (some true) (cond (decide (65534 < x19.At)) (some true) (cond (x19.Mask == 0) (some true) ((Vn x19.Old x19.Mask).bind fun y25=>cond y25 ((Vn x19.New x19.Mask).bind fun y26=>some (cond (cond (cond (cond (decide (x19.At≤s0_.1)) true (decide (65534 < x19.At))) true (x19.Mask == 0)) true (!y25)) true (!y26))) (some true))))).bind fun (z22:Bool)=>cond z22 (some (.inr (.inl ()))) (some (.inl (x19.At,(IntKind.i64.wrap (s0_.2+1)))))) (some (.inr (.inr ())))
noncomputable def Ks (Xr:(Zg→Int→Option Bool)) (a0:Zg) (a1:Int) (s1_:(Int×Int)):Option ((Int×Int) ⊕ (Unit ⊕ Unit)) :=
 cond (decide (s1_.2 < (a0.Kids.length:Int))) ((Xg a0.Kids s1_.2).bind fun x35=>(cond (decide (x35.At≤s1_.1)) (some true) (cond (decide (65534 < x35.At)) (some true) (cond (x35.E.Kind == 0) (some true) ((Xr x35.E (IntKind.i64.wrap (a1 - 1))).bind fun y39=>some (cond (cond (cond (decide (x35.At≤s1_.1)) true (decide (65534 < x35.At))) true (x35.E.Kind == 0)) true (!y39)))))).bind fun (z37:Bool)=>cond z37 (some (.inr (.inl ()))) (some (.inl (x35.At,(IntKind.i64.wrap (s1_.2+1)))))) (some (.inr (.inr ())))
noncomputable def Jh (Qr:(Int→Zl→Int→Option Bool)) (a0:Zg) (a1:Int) (s2_:Int):Option (Int ⊕ (Unit ⊕ Unit)) :=
 cond (decide (s2_ < (a0.Ops.length:Int))) ((Xg a0.Ops s2_).bind fun x48=>(Qr a0.List_ x48 (IntKind.i64.wrap (a1 - 1))).bind fun y49=>cond (!y49) (some (.inr (.inl ()))) (some (.inl (IntKind.i64.wrap (s2_+1))))) (some (.inr (.inr ())))
noncomputable def G7 (Xr:(Zg→Int→Option Bool)) (Qr:(Int→Zl→Int→Option Bool)) (a0:Zg) (a1:Int):Option Bool :=
 cond (cond (cond (a1 == 0) true (decide (a0.Kind < 0))) true (decide (3 < a0.Kind))) (some false) ((cond (a0.Kind != 1) ((Ki a0.Old).bind fun y6=>cond y6 ((Ki a0.New).bind fun y7=>some (cond (cond (cond (a0.Kind != 1) (!(cond y6 y7 false)) false) true (cond (a0.Kind != 2) (decide (0 < (IntKind.i64.wrap ((a0.Words.length:Int)+(a0.Kids.length:Int))))) false)) true (cond (a0.Kind != 3) (cond (a0.List_ != 0) true (decide (0 < (a0.Ops.length:Int)))) false))) (some true)) (some (cond (cond (a0.Kind != 2) (decide (0 < (IntKind.i64.wrap ((a0.Words.length:Int)+(a0.Kids.length:Int))))) false) true (cond (a0.Kind != 3) (cond (a0.List_ != 0) true (decide (0 < (a0.Ops.length:Int)))) false)))).bind fun (z3:Bool)=>cond z3 (some false) (cond (a0.Kind == 1) (((Za7 a0.Old 64).bind fun y15=>cond y15 ((Za7 a0.New 64).bind fun y16=>some (cond (cond (cond y15 y16 false) (a0.Old.Kind != 10) false) (a0.New.Kind != 10) false)) (some false)).bind fun (z12:Bool)=>some z12) ((Z9 (Kr a0) ((-1),0)).bind fun (z33:(Unit ⊕ Unit))=>match z33 with | .inl z33=>some false | .inr z33=>(Z9 (Ks Xr a0 a1) ((-1),0)).bind fun (z45:(Unit ⊕ Unit))=>match z45 with | .inl z45=>some false | .inr z45=>cond (cond (a0.Kind == 3) (cond (decide (a0.List_ < 2)) true (decide (9 < a0.List_))) false) (some false) ((Z9 (Jh Qr a0 a1) 0).bind fun (z52:(Unit ⊕ Unit))=>match z52 with | .inl z52=>some false | .inr z52=>(K7 a0).bind fun y54=>some (cond (decide (y54.1 < 1048576)) (decide (y54.2 < 1048576)) false)))))
noncomputable def G8 (a0:Int) (a1:Zl) (s0_:Int):Option (Int ⊕ (Unit ⊕ Unit)) :=
 cond (decide (s0_ < (a1.L.length:Int))) ((Zfj a1.L s0_ (IntKind.i64.wrap (s0_+1))).bind fun l10=>(Za7 (⟨a0,[],l10⟩:Zb) 64).bind fun y11=>cond (!y11) (some (.inr (.inl ()))) (some (.inl (IntKind.i64.wrap (s0_+1))))) (some (.inr (.inr ())))
noncomputable def Zc4 (Xr:(Zg→Int→Option Bool)) (Qr:(Int→Zl→Int→Option Bool)) (a0:Int) (a1:Zl) (a2:Int):Option Bool :=
 cond (a1.Kind == 0) ((cond (decide (1≤a1.N)) (cond (decide (a1.N≤1048576)) (cond ((a1.L.length:Int) == 0) ((U3 a1.E).bind fun y4=>some (cond (cond (cond (decide (1≤a1.N)) (decide (a1.N≤1048576)) false) ((a1.L.length:Int) == 0) false) y4 false)) (some false)) (some false)) (some false)).bind fun (z2:Bool)=>some z2) (cond (cond (cond (a1.N != 0) true (decide (a1.Kind < 0))) true (decide (3 < a1.Kind))) (some false) (cond (decide (a1.Kind < 3)) ((Z9 (G8 a0 a1) 0).bind fun (z14:(Unit ⊕ Unit))=>match z14 with | .inl z14=>some false | .inr z14=>(cond (decide (0 < (a1.L.length:Int))) ((U3 a1.E).bind fun y18=>some (cond (decide (0 < (a1.L.length:Int))) y18 false)) (some false)).bind fun (z16:Bool)=>some z16) ((cond (decide (0 < (a1.L.length:Int))) (some true) (cond (a1.E.Kind == 0) (some true) (cond (decide (a0≤7)) (some true) ((Xr a1.E a2).bind fun y23=>some (cond (cond (cond (decide (0 < (a1.L.length:Int))) true (a1.E.Kind == 0)) true (decide (a0≤7))) true (!y23)))))).bind fun (z21:Bool)=>cond z21 (some false) (some (cond (cond (a0 == 8) true (a1.E.Kind == 2)) true (cond (cond (a1.E.Kind == 1) (a1.E.Old.Kind == 1) false) (a1.E.New.Kind == 1) false))))))
noncomputable def Y1:Nat→((Zg→Int→Option Bool)×(Int→Zl→Int→Option Bool))
 | 0=>((fun _ _=>none),(fun _ _ _=>none))
 | k+1=>(G7 ((Y1 k).1) ((Y1 k).2),Zc4 ((Y1 k).1) ((Y1 k).2))
noncomputable def Ze2 (a0:Zg) (a1:Int):Option Bool:=lim fun k=>(Y1 k).1 a0 a1
noncomputable def Vz (X7:(Zg→Option Bool)) (a0:Zg) (s0_:Int):Option (Int ⊕ (Unit ⊕ Unit)) :=
 cond (decide (s0_ < (a0.Kids.length:Int))) ((Xg a0.Kids s0_).bind fun x6=>(X7 x6.E).bind fun y8=>cond (!y8) (some (.inr (.inl ()))) (some (.inl (IntKind.i64.wrap (s0_+1))))) (some (.inr (.inr ())))
noncomputable def V0 (X7:(Zg→Option Bool)) (a0:Zg) (s1_:Int):Option (Int ⊕ (Unit ⊕ Unit)) :=
 cond (decide (s1_ < (a0.Ops.length:Int))) ((Xg a0.Ops s1_).bind fun x15=>(X7 x15.E).bind fun y17=>cond (!y17) (some (.inr (.inl ()))) (some (.inl (IntKind.i64.wrap (s1_+1))))) (some (.inr (.inr ())))
noncomputable def G5 (X7:(Zg→Option Bool)) (a0:Zg):Option Bool :=
 (K7 a0).bind fun y2=>cond (cond (decide (2000 < y2.1)) true (decide (2000 < y2.2))) (some false) ((Z9 (Vz X7 a0) 0).bind fun (z11:(Unit ⊕ Unit))=>match z11 with | .inl z11=>some false | .inr z11=>(Z9 (V0 X7 a0) 0).bind fun (z20:(Unit ⊕ Unit))=>match z20 with | .inl z20=>some false | .inr z20=>some true)
noncomputable def J7:Nat→(Zg→Option Bool)
 | 0=>(fun _=>none)
 | k+1=>G5 ((J7 k))
noncomputable def Ze1 (a0:Zg):Option Bool:=lim fun k=>(J7 k) a0
noncomputable def Zby (a0:Zg):Option Bool :=
 ((Zcn a0).bind fun y8=>cond y8 ((Ze2 a0 64).bind fun y9=>cond y9 ((Ze1 a0).bind fun y10=>some (cond (cond y8 y9 false) y10 false)) (some false)) (some false)).bind fun (z4:Bool)=>some z4
noncomputable def Gr (a0:(List Int)) (s0_:Int):Option (Int ⊕ Int) :=
 (cond (decide (0 < s0_)) ((Xg a0 (IntKind.i64.wrap (s0_ - 1))).bind fun x4=>some (cond (decide (0 < s0_)) (x4 == 0) false)) (some false)).bind fun (z2:Bool)=>cond z2 (some (.inl (IntKind.i64.wrap (s0_ - 1)))) (some (.inr s0_))
noncomputable def Ua (a0:(List Int)):Option (List Int) :=
 (Z9 (Gr a0) (a0.length:Int)).bind fun (z7:Int)=>(Zfj a0 0 z7).bind fun l9=>some l9
noncomputable def Zba (a0:(List Zb)) (s0_:Int):Option (Int ⊕ Int) :=
 (cond (decide (0 < s0_)) ((Xg a0 (IntKind.i64.wrap (s0_ - 1))).bind fun x6=>some (cond (decide (0 < s0_)) (x6.Kind == 0) false)) (some false)).bind fun (z3:Bool)=>cond z3 (some (.inl (IntKind.i64.wrap (s0_ - 1)))) (some (.inr s0_))
noncomputable def Gi (a0:(List Zb)):Option (List Zb) :=
 (Z9 (Zba a0) (a0.length:Int)).bind fun (z10:Int)=>(Zfj a0 0 z10).bind fun l12=>some l12
noncomputable def Zcg (Zct:(Zb→Option Zb)) (z1:((List Int)×(List Zb))) (s0_:(Int×(List Zb))):Option ((Int×(List Zb)) ⊕ (List Zb)) :=
 cond (decide (s0_.1 < (z1.2.length:Int))) ((Xg z1.2 s0_.1).bind fun x9=>(Zct x9).bind fun y10=>(Xg s0_.2 s0_.1).bind fun x11=>some (.inl ((IntKind.i64.wrap (s0_.1+1)),(Zld s0_.2 s0_.1 y10)))) (some (.inr s0_.2))
noncomputable def Zgo (Zct:(Zb→Option Zb)) (a0:Zb):Option Zb :=
 cond (a0.Kind == 0) (some (⟨0,[],[]⟩:Zb)) ((cond (a0.Kind == 1) ((Ua a0.Words).bind fun y2=>(Gi a0.Kids).bind fun y3=>some (y2,y3)) (some (a0.Words,a0.Kids))).bind fun (z1:((List Int)×(List Zb)))=>(cond (decide (0 < (z1.2.length:Int))) ((Zm7 56 (z1.2.length:Int) (⟨(0:Int),[],[]⟩:Zb)).bind fun l6=>some l6) (some ([]:List Zb))).bind fun (z5:(List Zb))=>(Z9 (Zcg Zct z1) (0,z5)).bind fun (z14:(List Zb))=>some (⟨a0.Kind,z1.1,z14⟩:Zb))
noncomputable def Gw:Nat→(Zb→Option Zb)
 | 0=>(fun _=>none)
 | k+1=>Zgo ((Gw k))
noncomputable def Zcs (a0:Zb):Option Zb:=lim fun k=>(Gw k) a0
noncomputable def Ji (a0:List Zp):Option (List Zp) :=
 Zbf 32 ([]:List Zp) a0
structure Yb where
 out:(List Zl)
 kept:Int
 gone:(List Zb)
 come:(List Zb)
noncomputable def Qb (a0:Yb):Option Yb :=
 (cond (decide (0 < a0.kept)) ((Zbf 240 a0.out ([(⟨0,0,[],⟨0,⟨0,[],[]⟩,⟨0,[],[]⟩,[],[],0,[]⟩⟩:Zl)]:List Zl)).bind fun l2=>(Xg l2 (a0.out.length:Int)).bind fun x3=>some (a0.out++[(⟨0,a0.kept,[],⟨0,⟨0,[],[]⟩,⟨0,[],[]⟩,[],[],0,[]⟩⟩:Zl)])) (some a0.out)).bind fun (z1:(List Zl))=>(cond (decide (0 < (a0.gone.length:Int))) ((Zbf 240 z1 ([(⟨0,0,[],⟨0,⟨0,[],[]⟩,⟨0,[],[]⟩,[],[],0,[]⟩⟩:Zl)]:List Zl)).bind fun l9=>(Xg l9 (z1.length:Int)).bind fun x10=>some ((z1++[(⟨1,0,a0.gone,⟨0,⟨0,[],[]⟩,⟨0,[],[]⟩,[],[],0,[]⟩⟩:Zl)]),a0.gone)) (some (z1,a0.gone))).bind fun (z6:((List Zl)×(List Zb)))=>(cond (decide (0 < (a0.come.length:Int))) ((Zbf 240 z6.1 ([(⟨0,0,[],⟨0,⟨0,[],[]⟩,⟨0,[],[]⟩,[],[],0,[]⟩⟩:Zl)]:List Zl)).bind fun l16=>(Xg l16 (z6.1.length:Int)).bind fun x17=>some ((z6.1++[(⟨2,0,a0.come,⟨0,⟨0,[],[]⟩,⟨0,[],[]⟩,[],[],0,[]⟩⟩:Zl)]),a0.come)) (some (z6.1,a0.come))).bind fun (z13:((List Zl)×(List Zb)))=>some (⟨z13.1,0,[],[]⟩:Yb)
noncomputable def Va (a0:Yb) (a1:Int):Option Yb :=
 (cond (a0.kept == 0) ((Qb (⟨a0.out,a0.kept,a0.gone,a0.come⟩:Yb)).bind fun y2=>some (y2.out,y2.gone,y2.come,y2.kept)) (some (a0.out,a0.gone,a0.come,a0.kept))).bind fun (z1:((List Zl)×(List Zb)×(List Zb)×Int))=>some (⟨z1.1,(IntKind.i64.wrap (z1.2.2.2+a1)),z1.2.1,z1.2.2.1⟩:Yb)
noncomputable def Jl (a2:(List Zb)) (s0_:(Int×(List Zb))):Option ((Int×(List Zb)) ⊕ (List Zb)) :=
 cond (decide (s0_.1 < (a2.length:Int))) ((Xg a2 s0_.1).bind fun x5=>(Zcs x5).bind fun y6=>(Zbf 56 s0_.2 ([(⟨0,[],[]⟩:Zb)]:List Zb)).bind fun l7=>(Xg l7 (s0_.2.length:Int)).bind fun x8=>some (.inl ((IntKind.i64.wrap (s0_.1+1)),(s0_.2++[y6])))) (some (.inr s0_.2))
noncomputable def Kw (a0:Yb) (a2:(List Zb)):Option Yb :=
 (cond (decide (0 < a0.kept)) ((Qb (⟨a0.out,a0.kept,a0.gone,a0.come⟩:Yb)).bind fun y2=>some (y2.out,y2.gone,y2.come,y2.kept)) (some (a0.out,a0.gone,a0.come,a0.kept))).bind fun (z1:((List Zl)×(List Zb)×(List Zb)×Int))=>(Z9 (Jl a2) (0,z1.2.1)).bind fun (z11:(List Zb))=>some (⟨z1.1,z1.2.2.2,z11,z1.2.2.1⟩:Yb)
noncomputable def Jm (a2:(List Zb)) (s0_:(Int×(List Zb))):Option ((Int×(List Zb)) ⊕ (List Zb)) :=
 cond (decide (s0_.1 < (a2.length:Int))) ((Xg a2 s0_.1).bind fun x5=>(Zcs x5).bind fun y6=>(Zbf 56 s0_.2 ([(⟨0,[],[]⟩:Zb)]:List Zb)).bind fun l7=>(Xg l7 (s0_.2.length:Int)).bind fun x8=>some (.inl ((IntKind.i64.wrap (s0_.1+1)),(s0_.2++[y6])))) (some (.inr s0_.2))
noncomputable def Kx (a0:Yb) (a2:(List Zb)):Option Yb :=
 (cond (decide (0 < a0.kept)) ((Qb (⟨a0.out,a0.kept,a0.gone,a0.come⟩:Yb)).bind fun y2=>some (y2.out,y2.gone,y2.come,y2.kept)) (some (a0.out,a0.gone,a0.come,a0.kept))).bind fun (z1:((List Zl)×(List Zb)×(List Zb)×Int))=>(Z9 (Jm a2) (0,z1.2.2.1)).bind fun (z11:(List Zb))=>some (⟨z1.1,z1.2.2.2,z1.2.1,z11⟩:Yb)
noncomputable def Zer (a0:Int) (a1:Zg):Option Bool :=
 some (cond (a1.Kind == 0) true (cond (cond (a0 == 9) (a1.Kind == 2) false) ((IntKind.i64.wrap ((a1.Words.length:Int)+(a1.Kids.length:Int))) == 0) false))
noncomputable def K9 (a0:Yb) (a1:Int) (a2:Zg):Option Yb :=
 (Zer a1 a2).bind fun y2=>cond y2 ((Va (⟨a0.out,a0.kept,a0.gone,a0.come⟩:Yb) 1).bind fun y4=>some (⟨y4.out,y4.kept,y4.gone,y4.come⟩:Yb)) ((Qb (⟨a0.out,a0.kept,a0.gone,a0.come⟩:Yb)).bind fun y6=>(Zbf 240 y6.out ([(⟨0,0,[],⟨0,⟨0,[],[]⟩,⟨0,[],[]⟩,[],[],0,[]⟩⟩:Zl)]:List Zl)).bind fun l7=>(Xg l7 (y6.out.length:Int)).bind fun x8=>some (⟨(y6.out++[(⟨3,0,[],a2⟩:Zl)]),y6.kept,y6.gone,y6.come⟩:Yb))
noncomputable def Zcf (Qm:(Zg→Option Zg)) (a0:Zg) (s0_:(Int×(List Zm))):Option ((Int×(List Zm)) ⊕ (List Zm)) :=
 cond (decide (s0_.1 < (a0.Kids.length:Int))) ((Xg a0.Kids s0_.1).bind fun x8=>(Qm x8.E).bind fun y9=>(Zbf 208 s0_.2 ([(⟨x8.At,y9⟩:Zm)]:List Zm)).bind fun l10=>some (.inl ((IntKind.i64.wrap (s0_.1+1)),l10))) (some (.inr s0_.2))
noncomputable def Zek (Qm:(Zg→Option Zg)) (Ue:(Int→(List Zl)→Option (List Zl))) (a0:Zg):Option Zg :=
 cond (a0.Kind == 1) ((Zcs a0.Old).bind fun y3=>(Zcs a0.New).bind fun y4=>some (⟨1,y3,y4,[],[],0,[]⟩:Zg)) (cond (a0.Kind == 2) ((Ji a0.Words).bind fun y6=>(Z9 (Zcf Qm a0) (0,([]:List Zm))).bind fun (z12:(List Zm))=>some (⟨2,⟨0,[],[]⟩,⟨0,[],[]⟩,y6,z12,0,[]⟩:Zg)) (cond (a0.Kind == 3) ((Ue a0.List_ a0.Ops).bind fun y14=>some (⟨3,⟨0,[],[]⟩,⟨0,[],[]⟩,[],[],a0.List_,y14⟩:Zg)) (some (⟨0,⟨0,[],[]⟩,⟨0,[],[]⟩,[],[],0,[]⟩:Zg))))
noncomputable def Gd (Qm:(Zg→Option Zg)) (a0:Int) (a1:(List Zl)) (s0_:(Int×Int×(List Zl)×(List Zb)×(List Zb))):Option ((Int×Int×(List Zl)×(List Zb)×(List Zb)) ⊕ (Int×(List Zl)×(List Zb)×(List Zb))) :=
 cond (decide (s0_.1 < (a1.length:Int))) (((Xg a1 s0_.1).bind fun x3=>cond (x3.Kind == 0) ((Va (⟨s0_.2.2.1,s0_.2.1,s0_.2.2.2.1,s0_.2.2.2.2⟩:Yb) x3.N).bind fun y4=>some (y4.kept,y4.out,y4.gone,y4.come)) (cond (x3.Kind == 1) ((Kw (⟨s0_.2.2.1,s0_.2.1,s0_.2.2.2.1,s0_.2.2.2.2⟩:Yb) x3.L).bind fun y5=>some (y5.kept,y5.out,y5.gone,y5.come)) (cond (x3.Kind == 2) ((Kx (⟨s0_.2.2.1,s0_.2.1,s0_.2.2.2.1,s0_.2.2.2.2⟩:Yb) x3.L).bind fun y6=>some (y6.kept,y6.out,y6.gone,y6.come)) (cond (x3.Kind == 3) ((Qm x3.E).bind fun y7=>(K9 (⟨s0_.2.2.1,s0_.2.1,s0_.2.2.2.1,s0_.2.2.2.2⟩:Yb) a0 y7).bind fun y8=>some (y8.kept,y8.out,y8.gone,y8.come)) (some (s0_.2.1,s0_.2.2.1,s0_.2.2.2.1,s0_.2.2.2.2)))))).bind fun (z1:(Int×(List Zl)×(List Zb)×(List Zb)))=>some (.inl ((IntKind.i64.wrap (s0_.1+1)),z1.1,z1.2.1,z1.2.2.1,z1.2.2.2))) (some (.inr (s0_.2.1,s0_.2.2.1,s0_.2.2.2.1,s0_.2.2.2.2)))
noncomputable def Zd5 (Qm:(Zg→Option Zg)) (Ue:(Int→(List Zl)→Option (List Zl))) (a0:Int) (a1:(List Zl)):Option (List Zl) :=
 (Z9 (Gd Qm a0 a1) (0,0,([]:List Zl),([]:List Zb),([]:List Zb))).bind fun (z14:(Int×(List Zl)×(List Zb)×(List Zb)))=>(Qb (⟨z14.2.1,z14.1,z14.2.2.1,z14.2.2.2⟩:Yb)).bind fun y16=>some y16.out
noncomputable def Qg:Nat→((Zg→Option Zg)×(Int→(List Zl)→Option (List Zl)))
 | 0=>((fun _=>none),(fun _ _=>none))
 | k+1=>(Zek ((Qg k).1) ((Qg k).2),Zd5 ((Qg k).1) ((Qg k).2))
noncomputable def Zb8 (a0:Zg):Option Zg:=lim fun k=>(Qg k).1 a0
noncomputable def Qn (a0:(List Int)) (a1:(List Int)) (s0_:Int):Option (Int ⊕ (Unit ⊕ Unit)) :=
 cond (decide (s0_ < (a0.length:Int))) ((Xg a0 s0_).bind fun x3=>(Xg a1 s0_).bind fun x4=>cond (x3 != x4) (some (.inr (.inl ()))) (some (.inl (IntKind.i64.wrap (s0_+1))))) (some (.inr (.inr ())))
noncomputable def Qe (a0:(List Int)) (a1:(List Int)):Option Bool :=
 cond ((a0.length:Int) != (a1.length:Int)) (some false) ((Z9 (Qn a0 a1) 0).bind fun (z7:(Unit ⊕ Unit))=>match z7 with | .inl z7=>some false | .inr z7=>some true)
noncomputable def Zfl (Kz:(Zb→Zb→Option Bool)) (Z7:((List Zb)→(List Zb)→Option Bool)) (a0:Zb) (a1:Zb):Option Bool :=
 cond (a0.Kind != a1.Kind) (some false) (cond (a0.Kind == 0) (some true) (cond (a0.Kind == 1) (((Ua a0.Words).bind fun y14=>(Ua a1.Words).bind fun y15=>(Qe y14 y15).bind fun y16=>cond y16 ((Gi a0.Kids).bind fun y17=>(Gi a1.Kids).bind fun y18=>(Z7 y17 y18).bind fun y19=>some (cond y16 y19 false)) (some false)).bind fun (z7:Bool)=>some z7) (((Qe a0.Words a1.Words).bind fun y26=>cond y26 ((Z7 a0.Kids a1.Kids).bind fun y27=>some (cond y26 y27 false)) (some false)).bind fun (z23:Bool)=>some z23)))
noncomputable def Yp (Kz:(Zb→Zb→Option Bool)) (a0:(List Zb)) (a1:(List Zb)) (s0_:Int):Option (Int ⊕ (Unit ⊕ Unit)) :=
 cond (decide (s0_ < (a0.length:Int))) ((Xg a0 s0_).bind fun x2=>(Xg a1 s0_).bind fun x4=>(Kz x2 x4).bind fun y6=>cond (!y6) (some (.inr (.inl ()))) (some (.inl (IntKind.i64.wrap (s0_+1))))) (some (.inr (.inr ())))
noncomputable def Yr (Kz:(Zb→Zb→Option Bool)) (Z7:((List Zb)→(List Zb)→Option Bool)) (a0:(List Zb)) (a1:(List Zb)):Option Bool :=
 cond ((a0.length:Int) != (a1.length:Int)) (some false) ((Z9 (Yp Kz a0 a1) 0).bind fun (z9:(Unit ⊕ Unit))=>match z9 with | .inl z9=>some false | .inr z9=>some true)
noncomputable def Qa:Nat→((Zb→Zb→Option Bool)×((List Zb)→(List Zb)→Option Bool))
 | 0=>((fun _ _=>none),(fun _ _=>none))
 | k+1=>(Zfl ((Qa k).1) ((Qa k).2),Yr ((Qa k).1) ((Qa k).2))
noncomputable def Zh5 (a0:Zb) (a1:Zb):Option Bool:=lim fun k=>(Qa k).1 a0 a1
noncomputable def Yk (a0:(List Zb)) (a1:(List Zb)):Option Bool:=lim fun k=>(Qa k).2 a0 a1
noncomputable def Zh4 (a0:Zg) (a1:Zb):Option (Zb×Bool) :=
 cond (a0.Kind == 0) (some (a1,true)) (cond (a0.Kind == 1) ((Zh5 a1 a0.Old).bind fun y2=>some (a0.New,y2)) (cond (a0.Kind == 2) (none) (cond (a0.Kind == 3) (none) (some ((⟨0,[],[]⟩:Zb),false)))))
noncomputable def Zft (a0:Zg) (a1:Zb):Option (Zb×Bool) :=
 (Zh4 a0 a1).bind fun y2=>cond (!y2.2) (some ((⟨0,[],[]⟩:Zb),false)) ((Zcs y2.1).bind fun y4=>some (y4,true))
structure Zh where
 apart:Bool
 clash:Bool
noncomputable def Vb (a1:Zg) (a2:Zg) (a900:Zh):Option Zh :=
 (Zft a2 a1.Old).bind fun y2=>cond (!y2.2) (some (⟨true,a900.clash⟩:Zh)) ((Zh5 y2.1 a1.New).bind fun y4=>cond (!y4) (some (⟨a900.apart,true⟩:Zh)) (some a900))
structure Zi where
 mover:(Option Zh)
 left:Zg
 come:(List Zb)
noncomputable def Gh (a1:Zg):Option Zi :=
 some (⟨(none:Option Zh),⟨a1.Kind,⟨0,[],[]⟩,⟨0,[],[]⟩,[],[],a1.List_,[]⟩,[]⟩:Zi)
noncomputable def Zdu (a0:Int) (s0_:(Int×Int)):Option ((Int×Int) ⊕ Int) :=
 cond (decide (s0_.2 < 8)) (((Zpl (0≤s0_.2)).bind fun u3=>cond ((IntKind.u8.wrap (Zcl .u8 (Int.fdiv a0 (2 ^ min (Int.toNat s0_.2) 8)) 1)) == 1) ((Zpl (0≤(IntKind.i64.wrap (8 * s0_.2)))).bind fun u4=>some (IntKind.u64.wrap (Z2w .u64 s0_.1 (IntKind.u64.wrap (255 * 2 ^ min (Int.toNat (IntKind.i64.wrap (8 * s0_.2))) 64))))) (some s0_.1)).bind fun (z1:Int)=>some (.inl (z1,(IntKind.i64.wrap (s0_.2+1))))) (some (.inr s0_.1))
noncomputable def Zb0 (a0:Int):Option Int :=
 (Z9 (Zdu a0) (0,0)).bind fun (z7:Int)=>some z7
noncomputable def Za9 (a0:Zi) (a1:Zp) (a2:Zp) (a900:Zh):Option (Zp×Zi×Zh) :=
 (Zb0 (IntKind.u8.wrap (Zcl .u8 a1.Mask a2.Mask))).bind fun y2=>(Zb0 (IntKind.u8.wrap (Zpb .u8 a1.Mask a2.Mask))).bind fun y5=>(Zb0 (IntKind.u8.wrap (Zpb .u8 a1.Mask a2.Mask))).bind fun y6=>some ((⟨a1.At,(IntKind.u8.wrap (Zpb .u8 a1.Mask a2.Mask)),(IntKind.u64.wrap (Zcl .u64 a1.Old y5)),(IntKind.u64.wrap (Zcl .u64 a1.New y6))⟩:Zp),a0,(⟨(cond a900.apart true ((IntKind.u64.wrap (Zcl .u64 (IntKind.u64.wrap (Zmg .u64 a1.Old a2.Old)) y2)) != 0)),(cond a900.clash true ((IntKind.u64.wrap (Zcl .u64 (IntKind.u64.wrap (Zmg .u64 a1.New a2.New)) y2)) != 0))⟩:Zh))
noncomputable def Q5 (x3:Zp) (s1_:(List Zp)):Option ((List Zp) ⊕ (List Zp)) :=
 (cond (decide (0 < (s1_.length:Int))) ((Xg s1_ 0).bind fun x9=>some (cond (decide (0 < (s1_.length:Int))) (decide (x9.At < x3.At)) false)) (some false)).bind fun (z6:Bool)=>cond z6 ((Zfj s1_ 1 (s1_.length:Int)).bind fun l12=>some (.inl l12)) (some (.inr s1_))
noncomputable def Q4 (a1:(List Zp)) (s0_:((List Zp)×Int×Zi×Bool×Bool)):Option (((List Zp)×Int×Zi×Bool×Bool) ⊕ ((List Zp)×(List Zm)×(List Zl)×(List Zb)×Zi×Bool×Bool)) :=
 cond (decide (s0_.2.1 < (a1.length:Int))) (((Xg a1 s0_.2.1).bind fun x3=>(Z9 (Q5 x3) s0_.1).bind fun (z14:(List Zp))=>((cond (decide (0 < (z14.length:Int))) ((Xg z14 0).bind fun x21=>some (cond (decide (0 < (z14.length:Int))) (x21.At == x3.At) false)) (some false)).bind fun (z18:Bool)=>cond z18 ((Xg z14 0).bind fun x24=>(Za9 s0_.2.2.1 x3 x24 (⟨s0_.2.2.2.1,s0_.2.2.2.2⟩:Zh)).bind fun y25=>some (y25.1.At,y25.1.Mask,y25.1.Old,y25.1.New,y25.2.1,y25.2.2.apart,y25.2.2.clash)) (some (x3.At,x3.Mask,x3.Old,x3.New,s0_.2.2.1,s0_.2.2.2.1,s0_.2.2.2.2))).bind fun (z15:(Int×Int×Int×Int×Zi×Bool×Bool))=>cond (z15.2.1 != 0) ((Zbf 32 z15.2.2.2.2.1.left.Words ([(⟨z15.1,z15.2.1,z15.2.2.1,z15.2.2.2.1⟩:Zp)]:List Zp)).bind fun l27=>some (z14,l27,z15.2.2.2.2.1.left.Kids,z15.2.2.2.2.1.left.Ops,z15.2.2.2.2.1.come,(⟨(none:Option Zh),⟨z15.2.2.2.2.1.left.Kind,⟨z15.2.2.2.2.1.left.Old.Kind,z15.2.2.2.2.1.left.Old.Words,z15.2.2.2.2.1.left.Old.Kids⟩,⟨z15.2.2.2.2.1.left.New.Kind,z15.2.2.2.2.1.left.New.Words,z15.2.2.2.2.1.left.New.Kids⟩,l27,z15.2.2.2.2.1.left.Kids,z15.2.2.2.2.1.left.List_,z15.2.2.2.2.1.left.Ops⟩,z15.2.2.2.2.1.come⟩:Zi),z15.2.2.2.2.2.1,z15.2.2.2.2.2.2)) (some (z14,z15.2.2.2.2.1.left.Words,z15.2.2.2.2.1.left.Kids,z15.2.2.2.2.1.left.Ops,z15.2.2.2.2.1.come,z15.2.2.2.2.1,z15.2.2.2.2.2.1,z15.2.2.2.2.2.2))).bind fun (z1:((List Zp)×(List Zp)×(List Zm)×(List Zl)×(List Zb)×Zi×Bool×Bool))=>some (.inl (z1.1,(IntKind.i64.wrap (s0_.2.1+1)),(⟨(none:Option Zh),⟨z1.2.2.2.2.2.1.left.Kind,⟨z1.2.2.2.2.2.1.left.Old.Kind,z1.2.2.2.2.2.1.left.Old.Words,z1.2.2.2.2.2.1.left.Old.Kids⟩,⟨z1.2.2.2.2.2.1.left.New.Kind,z1.2.2.2.2.2.1.left.New.Words,z1.2.2.2.2.2.1.left.New.Kids⟩,z1.2.1,z1.2.2.1,z1.2.2.2.2.2.1.left.List_,z1.2.2.2.1⟩,z1.2.2.2.2.1⟩:Zi),z1.2.2.2.2.2.2.1,z1.2.2.2.2.2.2.2))) (some (.inr (s0_.2.2.1.left.Words,s0_.2.2.1.left.Kids,s0_.2.2.1.left.Ops,s0_.2.2.1.come,s0_.2.2.1,s0_.2.2.2.1,s0_.2.2.2.2)))
noncomputable def Vo (a0:Zi) (a1:(List Zp)) (a2:(List Zp)) (a900:Zh):Option (Zi×Zh) :=
 (Z9 (Q4 a1) (a2,0,a0,a900.apart,a900.clash)).bind fun (z30:((List Zp)×(List Zm)×(List Zl)×(List Zb)×Zi×Bool×Bool))=>some ((⟨(none:Option Zh),⟨z30.2.2.2.2.1.left.Kind,⟨z30.2.2.2.2.1.left.Old.Kind,z30.2.2.2.2.1.left.Old.Words,z30.2.2.2.2.1.left.Old.Kids⟩,⟨z30.2.2.2.2.1.left.New.Kind,z30.2.2.2.2.1.left.New.Words,z30.2.2.2.2.1.left.New.Kids⟩,z30.1,z30.2.1,z30.2.2.2.2.1.left.List_,z30.2.2.1⟩,z30.2.2.2.1⟩:Zi),(⟨z30.2.2.2.2.2.1,z30.2.2.2.2.2.2⟩:Zh))
noncomputable def U6 (a0:Zi) (a1:Int) (a2:Zg) (a900:Zh):Option (Zi×Zh) :=
 cond (a2.Kind != 0) ((Zbf 208 a0.left.Kids ([(⟨0,⟨0,⟨0,[],[]⟩,⟨0,[],[]⟩,[],[],0,[]⟩⟩:Zm)]:List Zm)).bind fun l1=>(Xg l1 (a0.left.Kids.length:Int)).bind fun x2=>some ((⟨(none:Option Zh),⟨a0.left.Kind,a0.left.Old,a0.left.New,a0.left.Words,(a0.left.Kids++[(⟨a1,a2⟩:Zm)]),a0.left.List_,a0.left.Ops⟩,a0.come⟩:Zi),a900)) (some (a0,a900))
noncomputable def Zbz (a0:Zl):Option Bool :=
 some (a0.Kind != 0)
noncomputable def Y4 (a0:(List Zl)) (s0_:Int):Option (Int ⊕ (Int ⊕ Unit)) :=
 cond (decide (s0_ < (a0.length:Int))) ((Xg a0 s0_).bind fun x3=>(Zbz x3).bind fun y4=>cond y4 (some (.inr (.inl s0_))) (some (.inl (IntKind.i64.wrap (s0_+1))))) (some (.inr (.inr ())))
noncomputable def Xl (a0:(List Zl)):Option Int :=
 (Z9 (Y4 a0) 0).bind fun (z7:(Int ⊕ Unit))=>match z7 with | .inl z7=>some z7 | .inr z7=>some (-1)
noncomputable def Yj (a0:(List Zl)):Option Bool :=
 (Xl a0).bind fun y2=>some (decide (0≤y2))
noncomputable def Ql (a0:Zi) (a900:Zh):Option (Zg×Zi×Zh) :=
 (cond ((IntKind.i64.wrap ((a0.left.Words.length:Int)+(a0.left.Kids.length:Int))) == 0) ((Yj a0.left.Ops).bind fun y4=>some (cond ((IntKind.i64.wrap ((a0.left.Words.length:Int)+(a0.left.Kids.length:Int))) == 0) (!y4) false)) (some false)).bind fun (z2:Bool)=>cond z2 (some ((⟨0,⟨0,[],[]⟩,⟨0,[],[]⟩,[],[],0,[]⟩:Zg),a0,a900)) (some (a0.left,a0,a900))
noncomputable def Zfs (a0:Zl):Option Int :=
 cond (a0.Kind == 0) (some a0.N) ((cond (a0.Kind == 1) (some (a0.Kind == 1)) (some (a0.Kind == 2))).bind fun (z1:Bool)=>cond z1 (some (a0.L.length:Int)) (some 1))
structure X2 where
 left:(List Zl)
 gone:Int
noncomputable def Qh (s0_:((List Zl)×Int)):Option (((List Zl)×Int) ⊕ ((Int×Int×(List Zl)×Int) ⊕ ((List Zl)×Int))) :=
 cond (decide (0 < (s0_.1.length:Int))) ((Xg s0_.1 0).bind fun x3=>(Zfs x3).bind fun y4=>cond (decide (0 < (IntKind.i64.wrap (y4 - s0_.2)))) ((Xg s0_.1 0).bind fun x7=>some (.inr (.inl (x7.Kind,(IntKind.i64.wrap (y4 - s0_.2)),s0_.1,s0_.2)))) ((Zfj s0_.1 1 (s0_.1.length:Int)).bind fun l9=>some (.inl (l9,0)))) (some (.inr (.inr (s0_.1,s0_.2))))
noncomputable def Jd (a0:X2):Option (Int×Int×X2) :=
 (Z9 (Qh) (a0.left,a0.gone)).bind fun (z12:((Int×Int×(List Zl)×Int) ⊕ ((List Zl)×Int)))=>match z12 with | .inl z12=>some (z12.1,z12.2.1,(⟨z12.2.2.1,z12.2.2.2⟩:X2)) | .inr z12=>some (0,0,(⟨z12.1,z12.2⟩:X2))
noncomputable def Je (a0:X2) (a1:Int):Option (Zl×X2) :=
 (Xg a0.left 0).bind fun x2=>(cond (x2.Kind == 0) (some (a1,x2.L)) ((cond (x2.Kind == 1) (some (x2.Kind == 1)) (some (x2.Kind == 2))).bind fun (z4:Bool)=>cond z4 ((Zfj x2.L a0.gone (IntKind.i64.wrap (a0.gone+a1))).bind fun l6=>some (x2.N,l6)) (some (x2.N,x2.L)))).bind fun (z3:(Int×(List Zb)))=>some ((⟨x2.Kind,z3.1,z3.2,x2.E⟩:Zl),(⟨a0.left,(IntKind.i64.wrap (a0.gone+a1))⟩:X2))
structure Yt where
 Of:Int
 P:Zl
 Q:Zl
noncomputable def Xq (a2:Int) (a3:Int) (s0_:((List Zl)×Int×(List Zl)×Int×(List Yt))):Option (((List Zl)×Int×(List Zl)×Int×(List Yt)) ⊕ ((List Yt)×Bool)) :=
 (Jd (⟨s0_.1,s0_.2.1⟩:X2)).bind fun y2=>(Jd (⟨s0_.2.2.1,s0_.2.2.2.1⟩:X2)).bind fun y4=>cond (cond (decide (0 < y2.2.1)) (y2.1 == a2) false) ((Je y2.2.2 y2.2.1).bind fun y5=>(Zbf 488 s0_.2.2.2.2 ([(⟨1,y5.1,⟨0,0,[],⟨0,⟨0,[],[]⟩,⟨0,[],[]⟩,[],[],0,[]⟩⟩⟩:Yt)]:List Yt)).bind fun l6=>some (.inl (y5.2.left,y5.2.gone,y4.2.2.left,y4.2.2.gone,l6))) (cond (cond (decide (0 < y4.2.1)) (y4.1 == a3) false) ((Je y4.2.2 y4.2.1).bind fun y7=>(Zbf 488 s0_.2.2.2.2 ([(⟨2,⟨0,0,[],⟨0,⟨0,[],[]⟩,⟨0,[],[]⟩,[],[],0,[]⟩⟩,y7.1⟩:Yt)]:List Yt)).bind fun l8=>some (.inl (y2.2.2.left,y2.2.2.gone,y7.2.left,y7.2.gone,l8))) (cond (cond (y2.2.1 == 0) (y4.2.1 == 0) false) (some (.inr (s0_.2.2.2.2,true))) (cond (cond (y2.2.1 == 0) true (y4.2.1 == 0)) (some (.inr (([]:(List Yt)),false))) ((Je y2.2.2 (if y4.2.1 < y2.2.1 then y4.2.1 else y2.2.1)).bind fun y9=>(Je y4.2.2 (if y4.2.1 < y2.2.1 then y4.2.1 else y2.2.1)).bind fun y10=>(Zbf 488 s0_.2.2.2.2 ([(⟨0,y9.1,y10.1⟩:Yt)]:List Yt)).bind fun l11=>some (.inl (y9.2.left,y9.2.gone,y10.2.left,y10.2.gone,l11))))))
noncomputable def Zdt (a0:(List Zl)) (a1:(List Zl)) (a2:Int) (a3:Int):Option ((List Yt)×Bool) :=
 (Z9 (Xq a2 a3) (a0,0,a1,0,([]:List Yt))).bind fun (z16:((List Yt)×Bool))=>some (z16.1,z16.2)
noncomputable def Vs (a0:(List Zl)) (a1:(List Zl)):Option ((List Yt)×Bool) :=
 (Zdt a0 a1 2 2).bind fun y2=>some (y2.1,y2.2)
noncomputable def U7 (a0:Zi) (a1:Zl) (a900:Zh):Option (Zi×Zh) :=
 (Zbf 240 a0.left.Ops ([(⟨0,0,[],⟨0,⟨0,[],[]⟩,⟨0,[],[]⟩,[],[],0,[]⟩⟩:Zl)]:List Zl)).bind fun l1=>(Xg l1 (a0.left.Ops.length:Int)).bind fun x2=>some ((⟨(none:Option Zh),⟨a0.left.Kind,a0.left.Old,a0.left.New,a0.left.Words,a0.left.Kids,a0.left.List_,(a0.left.Ops++[a1])⟩,a0.come⟩:Zi),a900)
noncomputable def U5 (a0:Zi) (a1:(List Zb)) (a900:Zh):Option (Zi×Zh) :=
 cond (decide (0 < (a1.length:Int))) ((U7 a0 (⟨0,(a1.length:Int),[],⟨0,⟨0,[],[]⟩,⟨0,[],[]⟩,[],[],0,[]⟩⟩:Zl) a900).bind fun y1=>some (y1.1,y1.2)) (cond (decide (0 < (a0.come.length:Int))) ((U7 a0 (⟨2,0,a0.come,⟨0,⟨0,[],[]⟩,⟨0,[],[]⟩,[],[],0,[]⟩⟩:Zl) a900).bind fun y2=>some (y2.1,y2.2)) (some (a0,a900)))
noncomputable def V7 (a1:Zi) (a2:Zi) (a900:Zh):Option (Zi×Zi×Zh) :=
 ((cond (decide (0 < (a1.come.length:Int))) (cond (decide (0 < (a2.come.length:Int))) ((Yk a1.come a2.come).bind fun y5=>some (cond (cond (decide (0 < (a1.come.length:Int))) (decide (0 < (a2.come.length:Int))) false) (!y5) false)) (some false)) (some false)).bind fun (z3:Bool)=>cond z3 (some true) (some a900.clash)).bind fun (z1:Bool)=>(U5 (⟨(none:Option Zh),⟨a1.left.Kind,a1.left.Old,a1.left.New,a1.left.Words,a1.left.Kids,a1.left.List_,a1.left.Ops⟩,a1.come⟩:Zi) a2.come (⟨a900.apart,z1⟩:Zh)).bind fun y10=>(U5 (⟨(none:Option Zh),⟨a2.left.Kind,a2.left.Old,a2.left.New,a2.left.Words,a2.left.Kids,a2.left.List_,a2.left.Ops⟩,a2.come⟩:Zi) y10.1.come y10.2).bind fun y12=>some ((⟨(none:Option Zh),⟨y10.1.left.Kind,y10.1.left.Old,y10.1.left.New,y10.1.left.Words,y10.1.left.Kids,y10.1.left.List_,y10.1.left.Ops⟩,[]⟩:Zi),(⟨(none:Option Zh),⟨y12.1.left.Kind,y12.1.left.Old,y12.1.left.New,y12.1.left.Words,y12.1.left.Kids,y12.1.left.List_,y12.1.left.Ops⟩,[]⟩:Zi),y12.2)
noncomputable def V8 (a0:Zi) (a1:Zl) (a900:Zh):Option (Zi×Zh) :=
 (Zbf 240 a0.left.Ops ([(⟨0,0,[],⟨0,⟨0,[],[]⟩,⟨0,[],[]⟩,[],[],0,[]⟩⟩:Zl)]:List Zl)).bind fun l1=>(Xg l1 (a0.left.Ops.length:Int)).bind fun x2=>some ((⟨(none:Option Zh),⟨a0.left.Kind,a0.left.Old,a0.left.New,a0.left.Words,a0.left.Kids,a0.left.List_,(a0.left.Ops++[a1])⟩,a0.come⟩:Zi),a900)
noncomputable def Ku (a0:Zi) (a1:Zg) (a900:Zh):Option (Zi×Zh) :=
 cond (a1.Kind == 0) ((V8 a0 (⟨0,1,[],⟨0,⟨0,[],[]⟩,⟨0,[],[]⟩,[],[],0,[]⟩⟩:Zl) a900).bind fun y2=>some (y2.1,y2.2)) ((V8 a0 (⟨3,0,[],a1⟩:Zl) a900).bind fun y3=>some (y3.1,y3.2))
noncomputable def V9 (a0:Zi) (a1:Zl) (a2:Zl) (a900:Zh):Option (Zi×Zh) :=
 cond (a2.Kind == 0) ((V8 a0 a1 a900).bind fun y1=>some (y1.1,y1.2)) (cond (cond (a1.Kind == 0) (a2.Kind == 3) false) (none) (cond (cond (a1.Kind == 1) (a2.Kind == 1) false) (cond a900.apart (some (a0,(⟨true,a900.clash⟩:Zh))) ((Yk a1.L a2.L).bind fun y2=>some (a0,(⟨(cond a900.apart true (!y2)),a900.clash⟩:Zh)))) (cond (cond (a1.Kind == 1) (a2.Kind == 3) false) ((Xg a1.L 0).bind fun x5=>none) (some (a0,a900)))))
noncomputable def J4 (Yg:(Zg→Zg→Zh→Option (Zg×Zg×Zh))) (Ye:(Zg→Zg→Zh→Option (Zg×Zg×Zh))) (Yi:(Zg→Zg→Zh→Option (Zg×Zg×Zh))) (Yl:(Zi→Zi→(List Zm)→(List Zm)→Zh→Option (Zi×Zi×Zh))) (Yh:(Zi→Zi→Zl→Zl→Zh→Option (Zi×Zi×Zh))) (a1:Zg) (a2:Zg) (a900:Zh):Option (Zg×Zg×Zh) :=
 (cond (cond (a1.Kind == 0) true (a2.Kind == 0)) (some (.inr (a1.Kind,a1.Old.Kind,a1.Old.Words,a1.Old.Kids,a1.New.Kind,a1.New.Words,a1.New.Kids,a1.Words,a1.Kids,a1.List_,a1.Ops,a2.Kind,a2.Old.Kind,a2.Old.Words,a2.Old.Kids,a2.New.Kind,a2.New.Words,a2.New.Kids,a2.Words,a2.Kids,a2.List_,a2.Ops,a900.apart,a900.clash))) (cond (a1.Kind == 1) ((Vb a1 a2 a900).bind fun y2=>some (.inl (y2.apart,y2.clash))) (cond (a2.Kind == 1) (none) (cond (cond (a1.Kind == 2) (a2.Kind == 2) false) ((Ye a1 a2 a900).bind fun y4=>some (.inr (y4.1.Kind,y4.1.Old.Kind,y4.1.Old.Words,y4.1.Old.Kids,y4.1.New.Kind,y4.1.New.Words,y4.1.New.Kids,y4.1.Words,y4.1.Kids,y4.1.List_,y4.1.Ops,y4.2.1.Kind,y4.2.1.Old.Kind,y4.2.1.Old.Words,y4.2.1.Old.Kids,y4.2.1.New.Kind,y4.2.1.New.Words,y4.2.1.New.Kids,y4.2.1.Words,y4.2.1.Kids,y4.2.1.List_,y4.2.1.Ops,y4.2.2.apart,y4.2.2.clash))) (cond (cond (cond (a1.Kind == 3) (a2.Kind == 3) false) (a1.List_ == a2.List_) false) ((Yi a1 a2 a900).bind fun y6=>some (.inr (y6.1.Kind,y6.1.Old.Kind,y6.1.Old.Words,y6.1.Old.Kids,y6.1.New.Kind,y6.1.New.Words,y6.1.New.Kids,y6.1.Words,y6.1.Kids,y6.1.List_,y6.1.Ops,y6.2.1.Kind,y6.2.1.Old.Kind,y6.2.1.Old.Words,y6.2.1.Old.Kids,y6.2.1.New.Kind,y6.2.1.New.Words,y6.2.1.New.Kids,y6.2.1.Words,y6.2.1.Kids,y6.2.1.List_,y6.2.1.Ops,y6.2.2.apart,y6.2.2.clash))) (some (.inl (true,a900.clash)))))))).bind fun (z1:((Bool×Bool) ⊕ (Int×Int×(List Int)×(List Zb)×Int×(List Int)×(List Zb)×(List Zp)×(List Zm)×Int×(List Zl)×Int×Int×(List Int)×(List Zb)×Int×(List Int)×(List Zb)×(List Zp)×(List Zm)×Int×(List Zl)×Bool×Bool)))=>match z1 with | .inl z1=>some ((⟨0,⟨0,[],[]⟩,⟨0,[],[]⟩,[],[],0,[]⟩:Zg),(⟨0,⟨0,[],[]⟩,⟨0,[],[]⟩,[],[],0,[]⟩:Zg),(⟨z1.1,z1.2⟩:Zh)) | .inr z1=>some ((⟨z1.1,⟨z1.2.1,z1.2.2.1,z1.2.2.2.1⟩,⟨z1.2.2.2.2.1,z1.2.2.2.2.2.1,z1.2.2.2.2.2.2.1⟩,z1.2.2.2.2.2.2.2.1,z1.2.2.2.2.2.2.2.2.1,z1.2.2.2.2.2.2.2.2.2.1,z1.2.2.2.2.2.2.2.2.2.2.1⟩:Zg),(⟨z1.2.2.2.2.2.2.2.2.2.2.2.1,⟨z1.2.2.2.2.2.2.2.2.2.2.2.2.1,z1.2.2.2.2.2.2.2.2.2.2.2.2.2.1,z1.2.2.2.2.2.2.2.2.2.2.2.2.2.2.1⟩,⟨z1.2.2.2.2.2.2.2.2.2.2.2.2.2.2.2.1,z1.2.2.2.2.2.2.2.2.2.2.2.2.2.2.2.2.1,z1.2.2.2.2.2.2.2.2.2.2.2.2.2.2.2.2.2.1⟩,z1.2.2.2.2.2.2.2.2.2.2.2.2.2.2.2.2.2.2.1,z1.2.2.2.2.2.2.2.2.2.2.2.2.2.2.2.2.2.2.2.1,z1.2.2.2.2.2.2.2.2.2.2.2.2.2.2.2.2.2.2.2.2.1,z1.2.2.2.2.2.2.2.2.2.2.2.2.2.2.2.2.2.2.2.2.2.1⟩:Zg),(⟨z1.2.2.2.2.2.2.2.2.2.2.2.2.2.2.2.2.2.2.2.2.2.2.1,z1.2.2.2.2.2.2.2.2.2.2.2.2.2.2.2.2.2.2.2.2.2.2.2⟩:Zh))
noncomputable def Vj (Yg:(Zg→Zg→Zh→Option (Zg×Zg×Zh))) (Ye:(Zg→Zg→Zh→Option (Zg×Zg×Zh))) (Yi:(Zg→Zg→Zh→Option (Zg×Zg×Zh))) (Yl:(Zi→Zi→(List Zm)→(List Zm)→Zh→Option (Zi×Zi×Zh))) (Yh:(Zi→Zi→Zl→Zl→Zh→Option (Zi×Zi×Zh))) (a1:Zg) (a2:Zg) (a900:Zh):Option (Zg×Zg×Zh) :=
 (Gh a1).bind fun y25=>(Gh a2).bind fun y61=>(Vo y25 a1.Words a2.Words a900).bind fun y98=>(Vo y61 a2.Words a1.Words y98.2).bind fun y100=>(Yl y98.1 y100.1 a1.Kids a2.Kids y100.2).bind fun y102=>(Ql (⟨(none:Option Zh),⟨y102.1.left.Kind,y102.1.left.Old,y102.1.left.New,y102.1.left.Words,y102.1.left.Kids,y102.1.left.List_,y102.1.left.Ops⟩,y102.1.come⟩:Zi) y102.2.2).bind fun y106=>(Ql (⟨(none:Option Zh),⟨y102.2.1.left.Kind,y102.2.1.left.Old,y102.2.1.left.New,y102.2.1.left.Words,y102.2.1.left.Kids,y102.2.1.left.List_,y102.2.1.left.Ops⟩,y102.2.1.come⟩:Zi) y106.2.2).bind fun y107=>some (y106.1,y107.1,y107.2.2)
noncomputable def Xe (Yh:(Zi→Zi→Zl→Zl→Zh→Option (Zi×Zi×Zh))) (y2:((List Yt)×Bool)) (s0_:(Int×Zi×Zi×Bool×Bool)):Option ((Int×Zi×Zi×Bool×Bool) ⊕ (Zi×Zi×(List Zp)×(List Zm)×(List Zl)×(List Zb)×(List Zp)×(List Zm)×(List Zl)×(List Zb)×Bool×Bool)) :=
 cond (decide (s0_.1 < (y2.1.length:Int))) (((Xg y2.1 s0_.1).bind fun x101=>cond (x101.Of == 1) ((Zbf 56 s0_.2.1.come x101.P.L).bind fun l102=>some ((⟨(none:Option Zh),⟨s0_.2.1.left.Kind,⟨s0_.2.1.left.Old.Kind,s0_.2.1.left.Old.Words,s0_.2.1.left.Old.Kids⟩,⟨s0_.2.1.left.New.Kind,s0_.2.1.left.New.Words,s0_.2.1.left.New.Kids⟩,s0_.2.1.left.Words,s0_.2.1.left.Kids,s0_.2.1.left.List_,s0_.2.1.left.Ops⟩,l102⟩:Zi),s0_.2.2.1,s0_.2.2.2.1,s0_.2.2.2.2)) (cond (x101.Of == 2) ((Zbf 56 s0_.2.2.1.come x101.Q.L).bind fun l103=>some (s0_.2.1,(⟨(none:Option Zh),⟨s0_.2.2.1.left.Kind,⟨s0_.2.2.1.left.Old.Kind,s0_.2.2.1.left.Old.Words,s0_.2.2.1.left.Old.Kids⟩,⟨s0_.2.2.1.left.New.Kind,s0_.2.2.1.left.New.Words,s0_.2.2.1.left.New.Kids⟩,s0_.2.2.1.left.Words,s0_.2.2.1.left.Kids,s0_.2.2.1.left.List_,s0_.2.2.1.left.Ops⟩,l103⟩:Zi),s0_.2.2.2.1,s0_.2.2.2.2)) (cond (x101.Of == 0) ((V7 s0_.2.1 s0_.2.2.1 (⟨s0_.2.2.2.1,s0_.2.2.2.2⟩:Zh)).bind fun y105=>(Yh y105.1 y105.2.1 x101.P x101.Q y105.2.2).bind fun y106=>some (y106.1,y106.2.1,y106.2.2.apart,y106.2.2.clash)) (some (s0_.2.1,s0_.2.2.1,s0_.2.2.2.1,s0_.2.2.2.2))))).bind fun (z99:(Zi×Zi×Bool×Bool))=>some (.inl ((IntKind.i64.wrap (s0_.1+1)),z99.1,z99.2.1,z99.2.2.1,z99.2.2.2))) (some (.inr (s0_.2.1,s0_.2.2.1,s0_.2.1.left.Words,s0_.2.1.left.Kids,s0_.2.1.left.Ops,s0_.2.1.come,s0_.2.2.1.left.Words,s0_.2.2.1.left.Kids,s0_.2.2.1.left.Ops,s0_.2.2.1.come,s0_.2.2.2.1,s0_.2.2.2.2)))
noncomputable def K4 (Yg:(Zg→Zg→Zh→Option (Zg×Zg×Zh))) (Ye:(Zg→Zg→Zh→Option (Zg×Zg×Zh))) (Yi:(Zg→Zg→Zh→Option (Zg×Zg×Zh))) (Yl:(Zi→Zi→(List Zm)→(List Zm)→Zh→Option (Zi×Zi×Zh))) (Yh:(Zi→Zi→Zl→Zl→Zh→Option (Zi×Zi×Zh))) (a1:Zg) (a2:Zg) (a900:Zh):Option (Zg×Zg×Zh) :=
 (Vs a1.Ops a2.Ops).bind fun y2=>(Gh a1).bind fun y27=>(Gh a2).bind fun y63=>(Z9 (Xe Yh y2) (0,y27,y63,(cond a900.apart true (!y2.2)),a900.clash)).bind fun (z111:(Zi×Zi×(List Zp)×(List Zm)×(List Zl)×(List Zb)×(List Zp)×(List Zm)×(List Zl)×(List Zb)×Bool×Bool))=>(V7 (⟨(none:Option Zh),⟨z111.1.left.Kind,⟨z111.1.left.Old.Kind,z111.1.left.Old.Words,z111.1.left.Old.Kids⟩,⟨z111.1.left.New.Kind,z111.1.left.New.Words,z111.1.left.New.Kids⟩,z111.2.2.1,z111.2.2.2.1,z111.1.left.List_,z111.2.2.2.2.1⟩,z111.2.2.2.2.2.1⟩:Zi) (⟨(none:Option Zh),⟨z111.2.1.left.Kind,⟨z111.2.1.left.Old.Kind,z111.2.1.left.Old.Words,z111.2.1.left.Old.Kids⟩,⟨z111.2.1.left.New.Kind,z111.2.1.left.New.Words,z111.2.1.left.New.Kids⟩,z111.2.2.2.2.2.2.1,z111.2.2.2.2.2.2.2.1,z111.2.1.left.List_,z111.2.2.2.2.2.2.2.2.1⟩,z111.2.2.2.2.2.2.2.2.2.1⟩:Zi) (⟨z111.2.2.2.2.2.2.2.2.2.2.1,z111.2.2.2.2.2.2.2.2.2.2.2⟩:Zh)).bind fun y113=>(Ql (⟨(none:Option Zh),⟨y113.1.left.Kind,y113.1.left.Old,y113.1.left.New,y113.1.left.Words,y113.1.left.Kids,y113.1.left.List_,y113.1.left.Ops⟩,y113.1.come⟩:Zi) y113.2.2).bind fun y117=>(Ql (⟨(none:Option Zh),⟨y113.2.1.left.Kind,y113.2.1.left.Old,y113.2.1.left.New,y113.2.1.left.Words,y113.2.1.left.Kids,y113.2.1.left.List_,y113.2.1.left.Ops⟩,y113.2.1.come⟩:Zi) y117.2.2).bind fun y118=>some (y117.1,y118.1,y118.2.2)
noncomputable def Vi (Yg:(Zg→Zg→Zh→Option (Zg×Zg×Zh))) (s0_:((List Zm)×(List Zm)×Zi×Zi×Bool×Bool)):Option (((List Zm)×(List Zm)×Zi×Zi×Bool×Bool) ⊕ ((List Zp)×(List Zm)×(List Zl)×(List Zb)×(List Zp)×(List Zm)×(List Zl)×(List Zb)×Zi×Zi×Bool×Bool)) :=
 cond (cond (decide (0 < (s0_.1.length:Int))) true (decide (0 < (s0_.2.1.length:Int)))) ((cond ((s0_.2.1.length:Int) == 0) (some true) (cond (decide (0 < (s0_.1.length:Int))) ((Xg s0_.1 0).bind fun x10=>(Xg s0_.2.1 0).bind fun x12=>some (cond ((s0_.2.1.length:Int) == 0) true (cond (decide (0 < (s0_.1.length:Int))) (decide (x10.At < x12.At)) false))) (some (cond ((s0_.2.1.length:Int) == 0) true false)))).bind fun (z5:Bool)=>cond z5 ((Xg s0_.1 0).bind fun x20=>none) ((cond ((s0_.1.length:Int) == 0) (some true) ((Xg s0_.2.1 0).bind fun x33=>(Xg s0_.1 0).bind fun x35=>some (cond ((s0_.1.length:Int) == 0) true (decide (x33.At < x35.At))))).bind fun (z28:Bool)=>cond z28 ((Xg s0_.2.1 0).bind fun x42=>none) ((Xg s0_.1 0).bind fun x70=>(Xg s0_.2.1 0).bind fun x118=>(Yg x70.E x118.E (⟨s0_.2.2.2.2.1,s0_.2.2.2.2.2⟩:Zh)).bind fun y154=>(Xg s0_.1 0).bind fun x253=>(U6 s0_.2.2.1 x253.At y154.1 y154.2.2).bind fun y255=>(Xg s0_.2.1 0).bind fun x259=>(U6 s0_.2.2.2.1 x259.At y154.2.1 y255.2).bind fun y261=>(Zfj s0_.1 1 (s0_.1.length:Int)).bind fun l262=>(Zfj s0_.2.1 1 (s0_.2.1.length:Int)).bind fun l263=>some (.inl (l262,l263,y255.1,y261.1,y261.2.apart,y261.2.clash))))) (some (.inr (s0_.2.2.1.left.Words,s0_.2.2.1.left.Kids,s0_.2.2.1.left.Ops,s0_.2.2.1.come,s0_.2.2.2.1.left.Words,s0_.2.2.2.1.left.Kids,s0_.2.2.2.1.left.Ops,s0_.2.2.2.1.come,s0_.2.2.1,s0_.2.2.2.1,s0_.2.2.2.2.1,s0_.2.2.2.2.2)))
noncomputable def Gm (Yg:(Zg→Zg→Zh→Option (Zg×Zg×Zh))) (Ye:(Zg→Zg→Zh→Option (Zg×Zg×Zh))) (Yi:(Zg→Zg→Zh→Option (Zg×Zg×Zh))) (Yl:(Zi→Zi→(List Zm)→(List Zm)→Zh→Option (Zi×Zi×Zh))) (Yh:(Zi→Zi→Zl→Zl→Zh→Option (Zi×Zi×Zh))) (a1:Zi) (a2:Zi) (a3:(List Zm)) (a4:(List Zm)) (a900:Zh):Option (Zi×Zi×Zh) :=
 (Z9 (Vi Yg) (a3,a4,a1,a2,a900.apart,a900.clash)).bind fun (z267:((List Zp)×(List Zm)×(List Zl)×(List Zb)×(List Zp)×(List Zm)×(List Zl)×(List Zb)×Zi×Zi×Bool×Bool))=>some ((⟨(none:Option Zh),⟨z267.2.2.2.2.2.2.2.2.1.left.Kind,⟨z267.2.2.2.2.2.2.2.2.1.left.Old.Kind,z267.2.2.2.2.2.2.2.2.1.left.Old.Words,z267.2.2.2.2.2.2.2.2.1.left.Old.Kids⟩,⟨z267.2.2.2.2.2.2.2.2.1.left.New.Kind,z267.2.2.2.2.2.2.2.2.1.left.New.Words,z267.2.2.2.2.2.2.2.2.1.left.New.Kids⟩,z267.1,z267.2.1,z267.2.2.2.2.2.2.2.2.1.left.List_,z267.2.2.1⟩,z267.2.2.2.1⟩:Zi),(⟨(none:Option Zh),⟨z267.2.2.2.2.2.2.2.2.2.1.left.Kind,⟨z267.2.2.2.2.2.2.2.2.2.1.left.Old.Kind,z267.2.2.2.2.2.2.2.2.2.1.left.Old.Words,z267.2.2.2.2.2.2.2.2.2.1.left.Old.Kids⟩,⟨z267.2.2.2.2.2.2.2.2.2.1.left.New.Kind,z267.2.2.2.2.2.2.2.2.2.1.left.New.Words,z267.2.2.2.2.2.2.2.2.2.1.left.New.Kids⟩,z267.2.2.2.2.1,z267.2.2.2.2.2.1,z267.2.2.2.2.2.2.2.2.2.1.left.List_,z267.2.2.2.2.2.2.1⟩,z267.2.2.2.2.2.2.2.1⟩:Zi),(⟨z267.2.2.2.2.2.2.2.2.2.2.1,z267.2.2.2.2.2.2.2.2.2.2.2⟩:Zh))
noncomputable def Gl (Yg:(Zg→Zg→Zh→Option (Zg×Zg×Zh))) (Ye:(Zg→Zg→Zh→Option (Zg×Zg×Zh))) (Yi:(Zg→Zg→Zh→Option (Zg×Zg×Zh))) (Yl:(Zi→Zi→(List Zm)→(List Zm)→Zh→Option (Zi×Zi×Zh))) (Yh:(Zi→Zi→Zl→Zl→Zh→Option (Zi×Zi×Zh))) (a1:Zi) (a2:Zi) (a3:Zl) (a4:Zl) (a900:Zh):Option (Zi×Zi×Zh) :=
 cond (cond (a3.Kind == 3) (a4.Kind == 3) false) ((Yg a3.E a4.E a900).bind fun y2=>(Ku a1 y2.1 y2.2.2).bind fun y4=>(Ku a2 y2.2.1 y4.2).bind fun y6=>some (y4.1,y6.1,y6.2)) ((V9 a1 a3 a4 a900).bind fun y8=>(V9 a2 a4 a3 y8.2).bind fun y9=>some (y8.1,y9.1,y9.2))
noncomputable def Zo:Nat→((Zg→Zg→Zh→Option (Zg×Zg×Zh))×(Zg→Zg→Zh→Option (Zg×Zg×Zh))×(Zg→Zg→Zh→Option (Zg×Zg×Zh))×(Zi→Zi→(List Zm)→(List Zm)→Zh→Option (Zi×Zi×Zh))×(Zi→Zi→Zl→Zl→Zh→Option (Zi×Zi×Zh)))
 | 0=>((fun _ _ _=>none),(fun _ _ _=>none),(fun _ _ _=>none),(fun _ _ _ _ _=>none),(fun _ _ _ _ _=>none))
 | k+1=>(J4 ((Zo k).1) ((Zo k).2.1) ((Zo k).2.2.1) ((Zo k).2.2.2.1) ((Zo k).2.2.2.2),Vj ((Zo k).1) ((Zo k).2.1) ((Zo k).2.2.1) ((Zo k).2.2.2.1) ((Zo k).2.2.2.2),K4 ((Zo k).1) ((Zo k).2.1) ((Zo k).2.2.1) ((Zo k).2.2.2.1) ((Zo k).2.2.2.2),Gm ((Zo k).1) ((Zo k).2.1) ((Zo k).2.2.1) ((Zo k).2.2.2.1) ((Zo k).2.2.2.2),Gl ((Zo k).1) ((Zo k).2.1) ((Zo k).2.2.1) ((Zo k).2.2.2.1) ((Zo k).2.2.2.2))
noncomputable def Gq (a1:Zg) (a2:Zg) (a900:Zh):Option (Zg×Zg×Zh):=lim fun k=>(Zo k).1 a1 a2 a900
noncomputable def Jv (a0:Zg) (a1:Zg):Option (Zg×Zg×Int) :=
 (Zb8 a0).bind fun y13=>(Zb8 a1).bind fun y37=>(Gq y13 y37 (⟨false,false⟩:Zh)).bind fun y49=>cond y49.2.2.apart (some ((⟨0,⟨0,[],[]⟩,⟨0,[],[]⟩,[],[],0,[]⟩:Zg),(⟨0,⟨0,[],[]⟩,⟨0,[],[]⟩,[],[],0,[]⟩:Zg),14)) (cond y49.2.2.clash (some ((⟨0,⟨0,[],[]⟩,⟨0,[],[]⟩,[],[],0,[]⟩:Zg),(⟨0,⟨0,[],[]⟩,⟨0,[],[]⟩,[],[],0,[]⟩:Zg),13)) ((Zb8 y49.1).bind fun y147=>(Zb8 y49.2.1).bind fun y148=>some (y147,y148,0)))
noncomputable def V5 :Option Bool :=
 (Jv (⟨3,⟨0,[],[]⟩,⟨0,[],[]⟩,[],[],4,([(⟨2,0,([(⟨10,([1]:List Int),[]⟩:Zb)]:List Zb),⟨0,⟨0,[],[]⟩,⟨0,[],[]⟩,[],[],0,[]⟩⟩:Zl),(⟨0,1,[],⟨0,⟨0,[],[]⟩,⟨0,[],[]⟩,[],[],0,[]⟩⟩:Zl)]:List Zl)⟩:Zg) (⟨3,⟨0,[],[]⟩,⟨0,[],[]⟩,[],[],4,([(⟨0,1,[],⟨0,⟨0,[],[]⟩,⟨0,[],[]⟩,[],[],0,[]⟩⟩:Zl),(⟨2,0,([(⟨10,([2]:List Int),[]⟩:Zb)]:List Zb),⟨0,⟨0,[],[]⟩,⟨0,[],[]⟩,[],[],0,[]⟩⟩:Zl)]:List Zl)⟩:Zg)).bind fun y2=>(cond (y2.2.2 == 0) (cond ((y2.1.Ops.length:Int) == 2) ((Xg y2.1.Ops 0).bind fun x20=>cond (x20.Kind == 2) ((Xg y2.1.Ops 1).bind fun x22=>cond (x22.N == 2) (cond ((y2.2.1.Ops.length:Int) == 2) ((Xg y2.2.1.Ops 0).bind fun x24=>cond (x24.N == 2) ((Xg y2.2.1.Ops 1).bind fun x26=>some (cond (cond (cond (cond (cond (cond (y2.2.2 == 0) ((y2.1.Ops.length:Int) == 2) false) (x20.Kind == 2) false) (x22.N == 2) false) ((y2.2.1.Ops.length:Int) == 2) false) (x24.N == 2) false) (x26.Kind == 2) false)) (some false)) (some false)) (some false)) (some false)) (some false)) (some false)).bind fun (z11:Bool)=>some z11
noncomputable def Up (a0:(List Int)) (s0_:Int):Option (Int ⊕ Int) :=
 (cond (decide (0 < s0_)) ((Xg a0 (IntKind.i64.wrap (s0_ - 1))).bind fun x4=>some (cond (decide (0 < s0_)) (x4 == 0) false)) (some false)).bind fun (z2:Bool)=>cond z2 (some (.inl (IntKind.i64.wrap (s0_ - 1)))) (some (.inr s0_))
noncomputable def Zbx (a0:(List Int)):Option (List Int) :=
 (Z9 (Up a0) (a0.length:Int)).bind fun (z7:Int)=>(Zfj a0 0 z7).bind fun l10=>(Zbf 8 ([]:List Int) l10).bind fun l11=>some l11
noncomputable def Jp (Kk:(Zb→Option Zb)) (a0:Zb) (s0_:(Int×Int×(List Zb))):Option ((Int×Int×(List Zb)) ⊕ (Int×(List Zb))) :=
 cond (decide (s0_.2.1 < (a0.Kids.length:Int))) (((Xg a0.Kids s0_.2.1).bind fun x4=>(Kk x4).bind fun y5=>(Zbf 56 s0_.2.2 ([y5]:List Zb)).bind fun l7=>cond (y5.Kind != 0) (some ((IntKind.i64.wrap (s0_.2.1+1)),l7)) (some (s0_.1,l7))).bind fun (z1:(Int×(List Zb)))=>some (.inl (z1.1,(IntKind.i64.wrap (s0_.2.1+1)),z1.2))) (some (.inr (s0_.1,s0_.2.2)))
noncomputable def Zbm (Kk:(Zb→Option Zb)) (a0:Zb):Option Zb :=
 cond (a0.Kind == 0) (some (⟨0,[],[]⟩:Zb)) ((Z9 (Jp Kk a0) (0,0,([]:List Zb))).bind fun (z10:(Int×(List Zb)))=>cond (a0.Kind == 1) ((Zbx a0.Words).bind fun y14=>(Zfj z10.2 0 z10.1).bind fun l15=>some (⟨1,y14,l15⟩:Zb)) ((Zbf 8 ([]:List Int) a0.Words).bind fun l17=>some (⟨a0.Kind,l17,z10.2⟩:Zb)))
noncomputable def Qk:Nat→(Zb→Option Zb)
 | 0=>(fun _=>none)
 | k+1=>Zbm ((Qk k))
noncomputable def Zbv (a0:Zb):Option Zb:=lim fun k=>(Qk k) a0
noncomputable def Zbd (a0:(List Zb)) (s0_:(Int×(List Zb))):Option ((Int×(List Zb)) ⊕ (List Zb)) :=
 cond (decide (s0_.1 < (a0.length:Int))) ((Xg a0 s0_.1).bind fun x1=>(Zbv x1).bind fun y2=>(Zbf 56 s0_.2 ([y2]:List Zb)).bind fun l3=>some (.inl ((IntKind.i64.wrap (s0_.1+1)),l3))) (some (.inr s0_.2))
noncomputable def Za8 (a0:(List Zb)):Option (List Zb) :=
 (Z9 (Zbd a0) (0,([]:List Zb))).bind fun (z5:(List Zb))=>some z5
noncomputable def Jf (a0:(List Zl)) (a2:Int) (s0_:(Int×(List Zb))):Option ((Int×(List Zb)) ⊕ (Int×(List Zb))) :=
 (cond (decide (s0_.1 < (a0.length:Int))) ((Xg a0 s0_.1).bind fun x10=>cond (x10.Kind == 1) (some (cond (decide (s0_.1 < (a0.length:Int))) true false)) (some (cond (decide (s0_.1 < (a0.length:Int))) (cond (x10.Kind == 1) true (x10.Kind == 2)) false))) (some false)).bind fun (z5:Bool)=>cond z5 (((Xg a0 s0_.1).bind fun x19=>cond (x19.Kind == a2) ((Xg a0 s0_.1).bind fun x21=>(Za8 x21.L).bind fun y23=>(Zbf 56 s0_.2 y23).bind fun l24=>some l24) (some s0_.2)).bind fun (z16:(List Zb))=>some (.inl ((IntKind.i64.wrap (s0_.1+1)),z16))) (some (.inr (s0_.1,s0_.2)))
noncomputable def G3 (a0:(List Zl)) (a1:Int) (a2:Int):Option ((List Zb)×Int) :=
 (Z9 (Jf a0 a2) (a1,([]:List Zb))).bind fun (z27:(Int×(List Zb)))=>some (z27.2,z27.1)
noncomputable def U4 (a0:Int) (a1:Zg):Option Bool :=
 some (cond (a1.Kind == 0) true (cond (cond (cond (a1.Kind == 2) (a0 == 9) false) ((a1.Words.length:Int) == 0) false) ((a1.Kids.length:Int) == 0) false))
noncomputable def Ui (Xk:(Zg→Option Zg)) (a0:Zg) (s0_:(Int×(List Zm))):Option ((Int×(List Zm)) ⊕ (List Zm)) :=
 cond (decide (s0_.1 < (a0.Kids.length:Int))) ((Xg a0.Kids s0_.1).bind fun x7=>(Xk x7.E).bind fun y11=>(Zbf 208 s0_.2 ([(⟨x7.At,y11⟩:Zm)]:List Zm)).bind fun l12=>some (.inl ((IntKind.i64.wrap (s0_.1+1)),l12))) (some (.inr s0_.2))
noncomputable def Zbo (Xk:(Zg→Option Zg)) (Ja:(Int→(List Zl)→Option (List Zl))) (a0:Zg):Option Zg :=
 cond (a0.Kind == 1) ((Zbv a0.Old).bind fun y3=>(Zbv a0.New).bind fun y4=>some (⟨1,y3,y4,[],[],0,[]⟩:Zg)) (cond (a0.Kind == 2) ((Zbf 32 ([]:List Zp) a0.Words).bind fun l6=>(Z9 (Ui Xk a0) (0,([]:List Zm))).bind fun (z14:(List Zm))=>some (⟨2,⟨0,[],[]⟩,⟨0,[],[]⟩,l6,z14,0,[]⟩:Zg)) (cond (a0.Kind == 3) ((Ja a0.List_ a0.Ops).bind fun y16=>some (⟨3,⟨0,[],[]⟩,⟨0,[],[]⟩,[],[],a0.List_,y16⟩:Zg)) (some (⟨0,⟨0,[],[]⟩,⟨0,[],[]⟩,[],[],0,[]⟩:Zg))))
noncomputable def X9 (Xk:(Zg→Option Zg)) (a0:Int) (a1:(List Zl)) (s0_:(Int×(List Zl))):Option ((Int×(List Zl)) ⊕ ((List Zl) ⊕ (List Zl))) :=
 cond (decide (s0_.1 < (a1.length:Int))) (((G3 a1 s0_.1 1).bind fun y3=>(G3 a1 s0_.1 2).bind fun y5=>(cond (decide (0 < (y3.1.length:Int))) ((Zbf 240 s0_.2 ([(⟨1,0,y3.1,⟨0,⟨0,[],[]⟩,⟨0,[],[]⟩,[],[],0,[]⟩⟩:Zl)]:List Zl)).bind fun l7=>some l7) (some s0_.2)).bind fun (z6:(List Zl))=>(cond (decide (0 < (y5.1.length:Int))) ((Zbf 240 z6 ([(⟨2,0,y5.1,⟨0,⟨0,[],[]⟩,⟨0,[],[]⟩,[],[],0,[]⟩⟩:Zl)]:List Zl)).bind fun l10=>some l10) (some z6)).bind fun (z9:(List Zl))=>cond (decide ((a1.length:Int)≤y3.2)) (some (.inr z9)) ((Xg a1 y3.2).bind fun x14=>((Xg a1 y3.2).bind fun x19=>cond (x19.Kind == 3) ((Xg a1 y3.2).bind fun x24=>(Xk x24.E).bind fun y26=>(U4 a0 y26).bind fun y28=>cond y28 (some (0,1,0,0,([]:(List Int)),([]:(List Zb)),0,([]:(List Int)),([]:(List Zb)),([]:(List Zp)),([]:(List Zm)),0,([]:(List Zl)))) (some (3,0,y26.Kind,y26.Old.Kind,y26.Old.Words,y26.Old.Kids,y26.New.Kind,y26.New.Words,y26.New.Kids,y26.Words,y26.Kids,y26.List_,y26.Ops))) (some (0,x14.N,0,0,([]:(List Int)),([]:(List Zb)),0,([]:(List Int)),([]:(List Zb)),([]:(List Zp)),([]:(List Zm)),0,([]:(List Zl))))).bind fun (z16:(Int×Int×Int×Int×(List Int)×(List Zb)×Int×(List Int)×(List Zb)×(List Zp)×(List Zm)×Int×(List Zl)))=>(cond (z16.1 == 0) (cond (decide (0 < (z9.length:Int))) ((Xg z9 (IntKind.i64.wrap ((z9.length:Int) - 1))).bind fun x36=>some (cond (cond (z16.1 == 0) (decide (0 < (z9.length:Int))) false) (x36.Kind == 0) false)) (some false)) (some false)).bind fun (z33:Bool)=>cond z33 ((Xg z9 (IntKind.i64.wrap ((z9.length:Int) - 1))).bind fun x40=>some (.inl (y3.2,(Zld z9 (IntKind.i64.wrap ((z9.length:Int) - 1)) (⟨x40.Kind,(IntKind.i64.wrap (x40.N+z16.2.1)),x40.L,x40.E⟩:Zl))))) ((Zbf 240 z9 ([(⟨z16.1,z16.2.1,[],⟨z16.2.2.1,⟨z16.2.2.2.1,z16.2.2.2.2.1,z16.2.2.2.2.2.1⟩,⟨z16.2.2.2.2.2.2.1,z16.2.2.2.2.2.2.2.1,z16.2.2.2.2.2.2.2.2.1⟩,z16.2.2.2.2.2.2.2.2.2.1,z16.2.2.2.2.2.2.2.2.2.2.1,z16.2.2.2.2.2.2.2.2.2.2.2.1,z16.2.2.2.2.2.2.2.2.2.2.2.2⟩⟩:Zl)]:List Zl)).bind fun l44=>some (.inl (y3.2,l44))))).bind fun (z1:((Int×(List Zl)) ⊕ (List Zl)))=>match z1 with | .inl z1=>some (.inl ((IntKind.i64.wrap (z1.1+1)),z1.2)) | .inr z1=>some (.inr (.inl z1))) (some (.inr (.inr s0_.2)))
noncomputable def Gy (Xk:(Zg→Option Zg)) (Ja:(Int→(List Zl)→Option (List Zl))) (a0:Int) (a1:(List Zl)):Option (List Zl) :=
 (Z9 (X9 Xk a0 a1) (0,([]:List Zl))).bind fun (z48:((List Zl) ⊕ (List Zl)))=>match z48 with | .inl z48=>some z48 | .inr z48=>some z48
noncomputable def Xj:Nat→((Zg→Option Zg)×(Int→(List Zl)→Option (List Zl)))
 | 0=>((fun _=>none),(fun _ _=>none))
 | k+1=>(Zbo ((Xj k).1) ((Xj k).2),Gy ((Xj k).1) ((Xj k).2))
noncomputable def Zfv (a0:Zg):Option Zg:=lim fun k=>(Xj k).1 a0
noncomputable def Uo (a0:(List Int)) (a1:(List Int)) (s0_:Int):Option (Int ⊕ (Unit ⊕ Unit)) :=
 cond (decide (s0_ < (a0.length:Int))) ((Xg a0 s0_).bind fun x3=>(Xg a1 s0_).bind fun x4=>cond (x3 != x4) (some (.inr (.inl ()))) (some (.inl (IntKind.i64.wrap (s0_+1))))) (some (.inr (.inr ())))
noncomputable def Zbu (a0:(List Int)) (a1:(List Int)):Option Bool :=
 cond ((a0.length:Int) != (a1.length:Int)) (some false) ((Z9 (Uo a0 a1) 0).bind fun (z7:(Unit ⊕ Unit))=>match z7 with | .inl z7=>some false | .inr z7=>some true)
noncomputable def Ug (Kl:(Zb→Zb→Option Bool)) (a0:Zb) (a1:Zb) (s0_:Int):Option (Int ⊕ (Unit ⊕ Unit)) :=
 cond (decide (s0_ < (a0.Kids.length:Int))) ((Xg a0.Kids s0_).bind fun x9=>(Xg a1.Kids s0_).bind fun x10=>(Kl x9 x10).bind fun y11=>cond (!y11) (some (.inr (.inl ()))) (some (.inl (IntKind.i64.wrap (s0_+1))))) (some (.inr (.inr ())))
noncomputable def Zbn (Kl:(Zb→Zb→Option Bool)) (a0:Zb) (a1:Zb):Option Bool :=
 (cond (a0.Kind != a1.Kind) (some true) ((Zbu a0.Words a1.Words).bind fun y4=>some (cond (cond (a0.Kind != a1.Kind) true (!y4)) true ((a0.Kids.length:Int) != (a1.Kids.length:Int))))).bind fun (z2:Bool)=>cond z2 (some false) ((Z9 (Ug Kl a0 a1) 0).bind fun (z14:(Unit ⊕ Unit))=>match z14 with | .inl z14=>some false | .inr z14=>some true)
noncomputable def K2:Nat→(Zb→Zb→Option Bool)
 | 0=>(fun _ _=>none)
 | k+1=>Zbn ((K2 k))
noncomputable def Zbw (a0:Zb) (a1:Zb):Option Bool:=lim fun k=>(K2 k) a0 a1
noncomputable def Vw (a0:(List Zb)) (a1:(List Zb)) (s0_:Int):Option (Int ⊕ (Unit ⊕ Unit)) :=
 cond (decide (s0_ < (a0.length:Int))) ((Xg a0 s0_).bind fun x4=>(Xg a1 s0_).bind fun x5=>(Zbw x4 x5).bind fun y6=>cond (!y6) (some (.inr (.inl ()))) (some (.inl (IntKind.i64.wrap (s0_+1))))) (some (.inr (.inr ())))
noncomputable def Vk (a0:(List Zb)) (a1:(List Zb)):Option Bool :=
 cond ((a0.length:Int) != (a1.length:Int)) (some false) ((Z9 (Vw a0 a1) 0).bind fun (z9:(Unit ⊕ Unit))=>match z9 with | .inl z9=>some false | .inr z9=>some true)
noncomputable def Uj (a0:Zg) (a1:Zg) (s0_:Int):Option (Int ⊕ (Unit ⊕ Unit)) :=
 cond (decide (s0_ < (a0.Words.length:Int))) ((Xg a0.Words s0_).bind fun x13=>(Xg a1.Words s0_).bind fun x14=>cond (!((x13.At == x14.At) && ((x13.Mask == x14.Mask) && ((x13.Old == x14.Old) && (x13.New == x14.New))))) (some (.inr (.inl ()))) (some (.inl (IntKind.i64.wrap (s0_+1))))) (some (.inr (.inr ())))
noncomputable def Uk (Qj:(Zg→Zg→Option Bool)) (a0:Zg) (a1:Zg) (s1_:Int):Option (Int ⊕ (Unit ⊕ Unit)) :=
 cond (decide (s1_ < (a0.Kids.length:Int))) (((Xg a0.Kids s1_).bind fun x37=>(Xg a1.Kids s1_).bind fun x39=>cond (x37.At != x39.At) (some true) ((Qj x37.E x39.E).bind fun y45=>some (cond (x37.At != x39.At) true (!y45)))).bind fun (z27:Bool)=>cond z27 (some (.inr (.inl ()))) (some (.inl (IntKind.i64.wrap (s1_+1))))) (some (.inr (.inr ())))
noncomputable def Ul (Qj:(Zg→Zg→Option Bool)) (a0:Zg) (a1:Zg) (s2_:Int):Option (Int ⊕ (Unit ⊕ Unit)) :=
 cond (decide (s2_ < (a0.Ops.length:Int))) ((Xg a0.Ops s2_).bind fun x50=>(Xg a1.Ops s2_).bind fun x51=>(cond (x50.Kind != x51.Kind) (some true) (cond (x50.N != x51.N) (some true) ((Vk x50.L x51.L).bind fun y57=>cond y57 ((Qj x50.E x51.E).bind fun y58=>some (cond (cond (cond (x50.Kind != x51.Kind) true (x50.N != x51.N)) true (!y57)) true (!y58))) (some true)))).bind fun (z54:Bool)=>cond z54 (some (.inr (.inl ()))) (some (.inl (IntKind.i64.wrap (s2_+1))))) (some (.inr (.inr ())))
noncomputable def Zbp (Qj:(Zg→Zg→Option Bool)) (a0:Zg) (a1:Zg):Option Bool :=
 (cond (a0.Kind != a1.Kind) (some true) (cond (a0.List_ != a1.List_) (some true) ((Zbw a0.Old a1.Old).bind fun y6=>cond y6 ((Zbw a0.New a1.New).bind fun y7=>some (cond (cond (cond (cond (cond (cond (a0.Kind != a1.Kind) true (a0.List_ != a1.List_)) true (!y6)) true (!y7)) true ((a0.Words.length:Int) != (a1.Words.length:Int))) true ((a0.Kids.length:Int) != (a1.Kids.length:Int))) true ((a0.Ops.length:Int) != (a1.Ops.length:Int)))) (some true)))).bind fun (z3:Bool)=>cond z3 (some false) ((Z9 (Uj a0 a1) 0).bind fun (z17:(Unit ⊕ Unit))=>match z17 with | .inl z17=>some false | .inr z17=>(Z9 (Uk Qj a0 a1) 0).bind fun (z49:(Unit ⊕ Unit))=>match z49 with | .inl z49=>some false | .inr z49=>(Z9 (Ul Qj a0 a1) 0).bind fun (z64:(Unit ⊕ Unit))=>match z64 with | .inl z64=>some false | .inr z64=>some true)
noncomputable def K3:Nat→(Zg→Zg→Option Bool)
 | 0=>(fun _ _=>none)
 | k+1=>Zbp ((K3 k))
noncomputable def Zfw (a0:Zg) (a1:Zg):Option Bool:=lim fun k=>(K3 k) a0 a1
noncomputable def U1 (a0:Zg):Option Bool :=
 (Zby a0).bind fun y2=>cond (!y2) ((V5).bind fun y4=>some y4) ((Jv a0 a0).bind fun y6=>(Jv a0 (⟨0,⟨0,[],[]⟩,⟨0,[],[]⟩,[],[],0,[]⟩:Zg)).bind fun y8=>(cond (y6.2.2 == 0) (cond (y6.1.Kind == 0) (cond (y6.2.1.Kind == 0) (cond (y8.2.2 == 0) ((Zfv a0).bind fun y16=>(Zfw y8.1 y16).bind fun y17=>cond y17 (cond (y8.2.1.Kind == 0) ((V5).bind fun y18=>some (cond (cond (cond (cond (cond (cond (y6.2.2 == 0) (y6.1.Kind == 0) false) (y6.2.1.Kind == 0) false) (y8.2.2 == 0) false) y17 false) (y8.2.1.Kind == 0) false) y18 false)) (some false)) (some false)) (some false)) (some false)) (some false)) (some false)).bind fun (z12:Bool)=>some z12)
mutual
def Zb6:Zb→List G
 | ⟨f0,f1,f2⟩=>[.val (.int .i64 f0),.sl f1.length (fl (eI .u64) f1),.sl f2.length (Zb7 f2)]
def Zb7:List Zb→List G
 | []=>[]
 | x::xs=>Zb6 x++Zb7 xs
end
theorem Zkt:∀ xs,Zb7 xs=fl Zb6 xs
 | []=>by simp [Zb7,fl]
 | x::xs=>by rw [Zb7,Zbc,Zkt xs]
def Za (x:Zb):List G:=[.val (.int .i64 x.Kind),.sl x.Words.length (fl (eI .u64) x.Words),.sl x.Kids.length (fl Zb6 x.Kids)]
theorem Q9:Zb6=Za:=by
 funext x
 obtain ⟨_,_,_⟩:=x
 simp only [Zb6,Zkt,Za,List.cons_append,List.nil_append]
mutual
theorem Znm:∀ x,G.pures (Zb6 x)=true
 | ⟨f0,f1,f2⟩=>by simp [Zb6,eP,eI,eB,eS,eL,G.pures,G.pure,Zda,Q8,Zmj f2]
theorem Zmj:∀ xs,G.pures (Zb7 xs)=true
 | []=>rfl
 | x::xs=>by simp [Zb7,Zda,Znm x,Zmj xs]
end
theorem Zx6:∀ x,G.pures ((eI .u64) x)=true:=fun x=>by simp [eI,eB,eS,eL,eP,G.pures,G.pure]
theorem Zjm {O O':Objs} {n:Nat} (xs:List Int):wkl O O' n (fl (eI .u64) xs) (fl (eI .u64) xs):=Zjn (Q8 Zx6 xs)
theorem Z2u (xs:List Int):(fl (eI .u64) xs).length=xs.length * 1:=Gz (f:=(eI .u64)) (k:=1) (fun _=>rfl) xs
theorem Z22 (xs:List Int):(fl (eI .u64) xs).all G.one=true:=Zid (fun x=>by simp [eI,eB,eS,eL,eP,G.one,Value.oneCell']) xs
theorem Zhg {ρ:Nat→Nat} (xs:List Int):G.rens ρ (fl (eI .u64) xs)=fl (eI .u64) xs:=Zbj ρ _ (Q8 Zx6 xs)
theorem Gj:∀ x,G.pures (Za x)=true:=fun x=>by rw [← Q9];exact Znm x
theorem Zcq {O O':Objs} {n:Nat} (xs:List Zb):wkl O O' n (fl Za xs) (fl Za xs):=Zjn (Q8 Gj xs)
theorem Zgk {O O':Objs} {n:Nat} (xs:List Zb) (b b':List G):wkl O O' n (fl Za xs++b) (fl Za xs++b')=wkl O O' n b b':=Zlp b b' _ (Q8 Gj xs)
theorem Zkx (xs:List Zb):(fl Za xs).length=xs.length * 3:=Gz (f:=Za) (k:=3) (fun _=>rfl) xs
theorem Zk4 (xs:List Zb):(fl Za xs).all G.one=true:=Zid (fun x=>by simp [eI,eB,eS,eL,eP,G.one,Value.oneCell',Za]) xs
theorem Zb5 {ρ:Nat→Nat} (xs:List Zb):G.rens ρ (fl Za xs)=fl Za xs:=Zbj ρ _ (Q8 Gj xs)
def Zd (x:Zp):List G:=[.val (.int .i64 x.At),.val (.int .u8 x.Mask),.val (.int .u64 x.Old),.val (.int .u64 x.New)]
mutual
def Ud:Zg→List G
 | ⟨f0,f1,f2,f3,f4,f5,f6⟩=>[.val (.int .i64 f0),.val (.int .i64 f1.Kind),.sl f1.Words.length (fl (eI .u64) f1.Words),.sl f1.Kids.length (fl Za f1.Kids),.val (.int .i64 f2.Kind),.sl f2.Words.length (fl (eI .u64) f2.Words),.sl f2.Kids.length (fl Za f2.Kids),.sl f3.length (fl Zd f3),.sl f4.length (V4 f4),.val (.int .i64 f5),.sl f6.length (Zdi f6)]
def Zkd:List Zg→List G
 | []=>[]
 | x::xs=>Ud x++Zkd xs
def Um:Zl→List G
 | ⟨f0,f1,f2,f3⟩=>[.val (.int .i64 f0),.val (.int .i64 f1),.sl f2.length (fl Za f2)]++Ud f3
def Zdi:List Zl→List G
 | []=>[]
 | x::xs=>Um x++Zdi xs
def Qt:Zm→List G
 | ⟨f0,f1⟩=>[.val (.int .i64 f0)]++Ud f1
def V4:List Zm→List G
 | []=>[]
 | x::xs=>Qt x++V4 xs
end
theorem Zfn:∀ xs,Zdi xs=fl Um xs
 | []=>by simp [Zdi,fl]
 | x::xs=>by rw [Zdi,Zbc,Zfn xs]
theorem Zcb:∀ xs,V4 xs=fl Qt xs
 | []=>by simp [V4,fl]
 | x::xs=>by rw [V4,Zbc,Zcb xs]
def Qf (x:Zg):List G:=[.val (.int .i64 x.Kind),.val (.int .i64 x.Old.Kind),.sl x.Old.Words.length (fl (eI .u64) x.Old.Words),.sl x.Old.Kids.length (fl Za x.Old.Kids),.val (.int .i64 x.New.Kind),.sl x.New.Words.length (fl (eI .u64) x.New.Words),.sl x.New.Kids.length (fl Za x.New.Kids),.sl x.Words.length (fl Zd x.Words),.sl x.Kids.length (fl Qt x.Kids),.val (.int .i64 x.List_),.sl x.Ops.length (fl Um x.Ops)]
def Zf (x:Zl):List G:=[.val (.int .i64 x.Kind),.val (.int .i64 x.N),.sl x.L.length (fl Za x.L),.val (.int .i64 x.E.Kind),.val (.int .i64 x.E.Old.Kind),.sl x.E.Old.Words.length (fl (eI .u64) x.E.Old.Words),.sl x.E.Old.Kids.length (fl Za x.E.Old.Kids),.val (.int .i64 x.E.New.Kind),.sl x.E.New.Words.length (fl (eI .u64) x.E.New.Words),.sl x.E.New.Kids.length (fl Za x.E.New.Kids),.sl x.E.Words.length (fl Zd x.E.Words),.sl x.E.Kids.length (fl Qt x.E.Kids),.val (.int .i64 x.E.List_),.sl x.E.Ops.length (fl Um x.E.Ops)]
def Zc (x:Zm):List G:=[.val (.int .i64 x.At),.val (.int .i64 x.E.Kind),.val (.int .i64 x.E.Old.Kind),.sl x.E.Old.Words.length (fl (eI .u64) x.E.Old.Words),.sl x.E.Old.Kids.length (fl Za x.E.Old.Kids),.val (.int .i64 x.E.New.Kind),.sl x.E.New.Words.length (fl (eI .u64) x.E.New.Words),.sl x.E.New.Kids.length (fl Za x.E.New.Kids),.sl x.E.Words.length (fl Zd x.E.Words),.sl x.E.Kids.length (fl Qt x.E.Kids),.val (.int .i64 x.E.List_),.sl x.E.Ops.length (fl Um x.E.Ops)]
theorem Zd6:Ud=Qf:=by
 funext x
 obtain ⟨_,_,_,_,_,_,_⟩:=x
 simp only [Ud,Um,Zfn,Qt,Zcb,Qf,List.cons_append,List.nil_append]
theorem Js:Um=Zf:=by
 funext x
 obtain ⟨_,_,_,⟨_,_,_,_,_,_,_⟩⟩:=x
 simp only [Ud,Um,Zfn,Qt,Zcb,Zf,List.cons_append,List.nil_append]
theorem X3:Qt=Zc:=by
 funext x
 obtain ⟨_,⟨_,_,_,_,_,_,_⟩⟩:=x
 simp only [Ud,Um,Zfn,Qt,Zcb,Zc,List.cons_append,List.nil_append]
mutual
theorem Zjc:∀ x,G.pures (Ud x)=true
 | ⟨f0,f1,f2,f3,f4,f5,f6⟩=>by simp [Ud,eP,eI,eB,eS,eL,G.pures,G.pure,Zda,Q8,Zjd f4,Zpf f6,Gj,Zd]
theorem Zt5:∀ xs,G.pures (Zkd xs)=true
 | []=>rfl
 | x::xs=>by simp [Zkd,Zda,Zjc x,Zt5 xs]
theorem Zro:∀ x,G.pures (Um x)=true
 | ⟨f0,f1,f2,f3⟩=>by simp [Um,eP,eI,eB,eS,eL,G.pures,G.pure,Zda,Q8,Zjc f3,Gj,Zd]
theorem Zpf:∀ xs,G.pures (Zdi xs)=true
 | []=>rfl
 | x::xs=>by simp [Zdi,Zda,Zro x,Zpf xs]
theorem Zj9:∀ x,G.pures (Qt x)=true
 | ⟨f0,f1⟩=>by simp [Qt,eP,eI,eB,eS,eL,G.pures,G.pure,Zda,Q8,Zjc f1,Gj,Zd]
theorem Zjd:∀ xs,G.pures (V4 xs)=true
 | []=>rfl
 | x::xs=>by simp [V4,Zda,Zj9 x,Zjd xs]
end
theorem Gs:∀ x,G.pures (Zd x)=true:=fun x=>by simp [eI,eB,eS,eL,eP,G.pures,G.pure,Zd]
theorem Us {O O':Objs} {n:Nat} (xs:List Zp):wkl O O' n (fl Zd xs) (fl Zd xs):=Zjn (Q8 Gs xs)
theorem Zog {O O':Objs} {n:Nat} (xs:List Zp) (b b':List G):wkl O O' n (fl Zd xs++b) (fl Zd xs++b')=wkl O O' n b b':=Zlp b b' _ (Q8 Gs xs)
theorem Zg1 (xs:List Zp):(fl Zd xs).length=xs.length * 4:=Gz (f:=Zd) (k:=4) (fun _=>rfl) xs
theorem Zhc (xs:List Zp):(fl Zd xs).all G.one=true:=Zid (fun x=>by simp [eI,eB,eS,eL,eP,G.one,Value.oneCell',Zd]) xs
theorem Zbe {ρ:Nat→Nat} (xs:List Zp):G.rens ρ (fl Zd xs)=fl Zd xs:=Zbj ρ _ (Q8 Gs xs)
theorem Zc1:∀ x,G.pures (Zc x)=true:=fun x=>by rw [← X3];exact Zj9 x
theorem Gt {O O':Objs} {n:Nat} (xs:List Zm):wkl O O' n (fl Zc xs) (fl Zc xs):=Zjn (Q8 Zc1 xs)
theorem Zh1 {O O':Objs} {n:Nat} (xs:List Zm) (b b':List G):wkl O O' n (fl Zc xs++b) (fl Zc xs++b')=wkl O O' n b b':=Zlp b b' _ (Q8 Zc1 xs)
theorem Zb4 {ρ:Nat→Nat} (xs:List Zm):G.rens ρ (fl Zc xs)=fl Zc xs:=Zbj ρ _ (Q8 Zc1 xs)
theorem Zgm:∀ x,G.pures (Zf x)=true:=fun x=>by rw [← Js];exact Zro x
theorem Zd2 {O O':Objs} {n:Nat} (xs:List Zl):wkl O O' n (fl Zf xs) (fl Zf xs):=Zjn (Q8 Zgm xs)
theorem Zf2 {O O':Objs} {n:Nat} (xs:List Zl) (b b':List G):wkl O O' n (fl Zf xs++b) (fl Zf xs++b')=wkl O O' n b b':=Zlp b b' _ (Q8 Zgm xs)
theorem Zc8 {ρ:Nat→Nat} (xs:List Zl):G.rens ρ (fl Zf xs)=fl Zf xs:=Zbj ρ _ (Q8 Zgm xs)
theorem Z7p:∀ x,G.pures ((eI .u8) x)=true:=fun x=>by simp [eI,eB,eS,eL,eP,G.pures,G.pure]
theorem Z5z {O O':Objs} {n:Nat} (xs:List Int):wkl O O' n (fl (eI .u8) xs) (fl (eI .u8) xs):=Zjn (Q8 Z7p xs)
theorem Z5h (xs:List Int):(fl (eI .u8) xs).length=xs.length * 1:=Gz (f:=(eI .u8)) (k:=1) (fun _=>rfl) xs
theorem Z5p (xs:List Int):(fl (eI .u8) xs).all G.one=true:=Zid (fun x=>by simp [eI,eB,eS,eL,eP,G.one,Value.oneCell']) xs
def Yf (x:Yt):List G:=[.val (.int .i64 x.Of),.val (.int .i64 x.P.Kind),.val (.int .i64 x.P.N),.sl x.P.L.length (fl Za x.P.L),.val (.int .i64 x.P.E.Kind),.val (.int .i64 x.P.E.Old.Kind),.sl x.P.E.Old.Words.length (fl (eI .u64) x.P.E.Old.Words),.sl x.P.E.Old.Kids.length (fl Za x.P.E.Old.Kids),.val (.int .i64 x.P.E.New.Kind),.sl x.P.E.New.Words.length (fl (eI .u64) x.P.E.New.Words),.sl x.P.E.New.Kids.length (fl Za x.P.E.New.Kids),.sl x.P.E.Words.length (fl Zd x.P.E.Words),.sl x.P.E.Kids.length (fl Zc x.P.E.Kids),.val (.int .i64 x.P.E.List_),.sl x.P.E.Ops.length (fl Zf x.P.E.Ops),.val (.int .i64 x.Q.Kind),.val (.int .i64 x.Q.N),.sl x.Q.L.length (fl Za x.Q.L),.val (.int .i64 x.Q.E.Kind),.val (.int .i64 x.Q.E.Old.Kind),.sl x.Q.E.Old.Words.length (fl (eI .u64) x.Q.E.Old.Words),.sl x.Q.E.Old.Kids.length (fl Za x.Q.E.Old.Kids),.val (.int .i64 x.Q.E.New.Kind),.sl x.Q.E.New.Words.length (fl (eI .u64) x.Q.E.New.Words),.sl x.Q.E.New.Kids.length (fl Za x.Q.E.New.Kids),.sl x.Q.E.Words.length (fl Zd x.Q.E.Words),.sl x.Q.E.Kids.length (fl Zc x.Q.E.Kids),.val (.int .i64 x.Q.E.List_),.sl x.Q.E.Ops.length (fl Zf x.Q.E.Ops)]
theorem Ze7:∀ x,G.pures (Yf x)=true:=fun x=>by simp [eI,eB,eS,eL,eP,G.pures,G.pure,Q8,Yf,Gj,Gs,Zc1,Zgm]
theorem Zh2 {O O':Objs} {n:Nat} (xs:List Yt):wkl O O' n (fl Yf xs) (fl Yf xs):=Zjn (Q8 Ze7 xs)
theorem Zo8 {O O':Objs} {n:Nat} (xs:List Yt) (b b':List G):wkl O O' n (fl Yf xs++b) (fl Yf xs++b')=wkl O O' n b b':=Zlp b b' _ (Q8 Ze7 xs)
theorem Znn {ρ:Nat→Nat} (xs:List Yt):G.rens ρ (fl Yf xs)=fl Yf xs:=Zbj ρ _ (Q8 Ze7 xs)
def Yz (x:Zl):List G:=[.val (.int .i64 x.Kind),.val (.int .i64 x.N),.sl x.L.length (fl Za x.L),.val (.int .i64 x.E.Kind),.val (.int .i64 x.E.Old.Kind),.sl x.E.Old.Words.length (fl (eI .u64) x.E.Old.Words),.sl x.E.Old.Kids.length (fl Za x.E.Old.Kids),.val (.int .i64 x.E.New.Kind),.sl x.E.New.Words.length (fl (eI .u64) x.E.New.Words),.sl x.E.New.Kids.length (fl Za x.E.New.Kids),.sl x.E.Words.length (fl Zd x.E.Words),.sl x.E.Kids.length (fl Zc x.E.Kids),.val (.int .i64 x.E.List_),.sl x.E.Ops.length (fl Zf x.E.Ops)]
def Zbi (x:Zm):List G:=[.val (.int .i64 x.At),.val (.int .i64 x.E.Kind),.val (.int .i64 x.E.Old.Kind),.sl x.E.Old.Words.length (fl (eI .u64) x.E.Old.Words),.sl x.E.Old.Kids.length (fl Za x.E.Old.Kids),.val (.int .i64 x.E.New.Kind),.sl x.E.New.Words.length (fl (eI .u64) x.E.New.Words),.sl x.E.New.Kids.length (fl Za x.E.New.Kids),.sl x.E.Words.length (fl Zd x.E.Words),.sl x.E.Kids.length (fl Zc x.E.Kids),.val (.int .i64 x.E.List_),.sl x.E.Ops.length (fl Zf x.E.Ops)]
def Zk (x:Zg):List G:=[.val (.int .i64 x.Kind),.val (.int .i64 x.Old.Kind),.sl x.Old.Words.length (fl (eI .u64) x.Old.Words),.sl x.Old.Kids.length (fl Za x.Old.Kids),.val (.int .i64 x.New.Kind),.sl x.New.Words.length (fl (eI .u64) x.New.Words),.sl x.New.Kids.length (fl Za x.New.Kids),.sl x.Words.length (fl Zd x.Words),.sl x.Kids.length (fl Zc x.Kids),.val (.int .i64 x.List_),.sl x.Ops.length (fl Zf x.Ops)]
def Zz (x:Zb):List G:=[.val (.int .i64 x.Kind),.sl x.Words.length (fl (eI .u64) x.Words),.sl x.Kids.length (fl Za x.Kids)]
def Xb (x:Zp):List G:=[.val (.int .i64 x.At),.val (.int .u8 x.Mask),.val (.int .u64 x.Old),.val (.int .u64 x.New)]
def Zj (g0:G) (g8:G) (g9:G) (g11:G) (g12:G) (x:Zi):List G:=[g0,.val (.int .i64 x.left.Kind),.val (.int .i64 x.left.Old.Kind),.sl x.left.Old.Words.length (fl (eI .u64) x.left.Old.Words),.sl x.left.Old.Kids.length (fl Za x.left.Old.Kids),.val (.int .i64 x.left.New.Kind),.sl x.left.New.Words.length (fl (eI .u64) x.left.New.Words),.sl x.left.New.Kids.length (fl Za x.left.New.Kids),g8,g9,.val (.int .i64 x.left.List_),g11,g12]
abbrev vI (x:Int):G := .val (.int .i64 x)
abbrev vB (x:Bool):G := .val (.bool x)
abbrev nV:G := .val (.slice none 0 0)
abbrev sL {α:Type} (e:α→List G) (x:List α):G := .sl x.length (fl e x)
abbrev oR {α:Type} (t s:Nat) (e:α→List G) (x:List α):GObj:=⟨true,t,s,x.length,fl e x⟩
theorem zFn {f:FuncId} {gs:List G} {O O2:Objs} {n n2:Nat} {r:G} {fn:Func} {c:Code} (hc:∀ args w,(callFunc f args).run Try.prog w = .ok (.enter f args) w) (hf:Try.prog.funcs[f]? = some fn) (h:Und O n→O n=none→(∀ k,O (n+k)=none)→W Try.prog n c (Fin Ko fn.results.toList r n O2 n2) ⟨fn.ntmps,[],Zux 0 gs⟩ (Zx O n []) n) (hb:fn.body=some c:=by exact rfl) (hn:gs.length≤fn.ntmps:=by exact Nat.le_of_ble_eq_true rfl) (h2:n≤n2:=by first | exact Nat.le_refl _ | omega):GTo Try.prog f gs O n r O2 n2:=Zc5 Z0 hc hf hb hn h2 fun hU=>h hU (hU.fresh _ (Nat.le_refl _)) fun k=>hU.fresh _ (Nat.le_add_right _ _)
structure Hid (p:Prop):Prop where
 get:p
structure Ar {α:Type} (a:α):Prop where
def Ar.v {α:Type} {a:α} (_:Ar a):α:=a
theorem zQ {A B:Prop} (l0:List Nat) (b:B) (e:Ar l0→Hid B→A:=by intro x0 bZ;refine Zce x0.v (Ya Z0 [] ?_);simp only [push_cast,seval,Ze,Ar.v,hN0,hN];exact bZ.get):A:=e ⟨⟩ ⟨b⟩
theorem zQD {A B:Prop} (l0:List Nat) (l1:List (Option Bool)) (b:B) (e:Ar l0→Ar l1→Hid B→A:=by intro x0 x1 bZ;refine Zce x0.v (Ya Z0 x1.v ?_);simp only [push_cast,seval,Ze,Ar.v,hN0,hN];(repeat (with_reducible refine And.intro (by first | (intro h0;simp only [h0,and_self];done) | (intro h0;simp only [h0,Bool.not_false,Bool.not_true,Bool.true_and,Bool.and_true,true_and,and_true,and_self,imp_self,implies_true,bne_iff_ne,ne_eq,beq_iff_eq];done) | (intros;simp_all;done) | exact True.intro) ?_));exact bZ.get):A:=e ⟨⟩ ⟨⟩ ⟨b⟩
theorem X6 {A:Prop} (l0:List G) (e:Ar l0→A:=by intro x0;refine Z98 ?_;(try simp only [Xh,Ys]);have h:=Option.some.inj h;subst h;refine Zyk (.inr rfl) hU x0.v (by omega) ?_;simp only [push_cast,seval,Ze,Ar.v,hN0,hN]):A:=e ⟨⟩
theorem Gk {A B:Prop} (l0:List Nat) (l1:List Bool) (b:B) (e:Ar l0→Ar l1→Hid B→A:=by intro x0 x1 bZ;refine Z55 ?_;(try simp only [Xh,Ys]);refine Zsx x0.v x1.v ?_;simp only [push_cast,seval,Ar.v];exact bZ.get):A:=e ⟨⟩ ⟨⟩ ⟨b⟩
theorem zQd {A B:Prop} (l0:List Nat) (l1:List Nat) (l2:List Bool) (b:B) (e:Ar l0→Ar l1→Ar l2→Hid B→A:=by intro x0 x1 x2 bZ;refine Zce x0.v (Ya Z0 [] ?_);simp only [push_cast,seval,Ze,Ar.v,hN0,hN];refine Zsx x1.v x2.v ?_;simp only [push_cast,seval,Ar.v];exact bZ.get):A:=e ⟨⟩ ⟨⟩ ⟨⟩ ⟨b⟩
theorem Zlq {A B:Prop} (l0:List (Option Bool)) {P1:Prop} (p1:P1) {P2:Prop} (p2:P2) {P3:Prop} (p3:P3) (b:B) (e:Ar l0→P1→P2→P3→Hid B→A:=by intro x0 x1 x2 x3 bZ;refine Ya Z0 x0.v ?_;simp only [push_cast,Nat.reduceAdd,Nat.reduceSub,Nat.reduceMul,Nat.reduceLeDiff,Nat.reduceLT,Nat.reduceEqDiff,↓reduceIte,reduceCtorEq,Int.reduceBEq,Int.reduceBNe,Nat.reduceBEq,Int.reduceLE,Int.reduceLT,Int.reduceEq,Int.reduceNe,Int.reduceNeg,Nat.reduceDiv,Nat.reduceMod,Nat.reducePow,Ze,Ar.v,x1,x2,x3,hN0,hN];exact bZ.get):A:=e ⟨⟩ p1 p2 p3 ⟨b⟩
theorem zF3 {A B:Prop} {P0:Prop} (p0:P0) {P1:Prop} (p1:P1) {P2:Prop} (p2:P2) (b:B) (e:P0→P1→P2→Hid B→A:=by intro x0 x1 x2 bZ;simp only [push_cast,Nat.reduceAdd,Nat.reduceSub,Nat.reduceMul,Nat.reduceLeDiff,Nat.reduceLT,Nat.reduceEqDiff,↓reduceIte,reduceCtorEq,Int.reduceBEq,Int.reduceBNe,Nat.reduceBEq,Int.reduceLE,Int.reduceLT,Int.reduceEq,Int.reduceNe,Int.reduceNeg,Nat.reduceDiv,Nat.reduceMod,Nat.reducePow,Ze,x0,x1,x2,hN0,hN];exact bZ.get):A:=e p0 p1 p2 ⟨b⟩
theorem zD {A B:Prop} (l0:List Nat) (l1:List Bool) (b:B) (e:Ar l0→Ar l1→Hid B→A:=by intro x0 x1 bZ;refine Zsx x0.v x1.v ?_;simp only [push_cast,seval,Ar.v];exact bZ.get):A:=e ⟨⟩ ⟨⟩ ⟨b⟩
theorem zR {A B:Prop} (b:B) (e:Hid B→A:=by intro bZ;refine Ya Z0 [] ?_;simp only [push_cast,seval,Ze,hN0,hN];exact bZ.get):A:=e ⟨b⟩
theorem zEn {A:Prop} {P0:Prop} (p0:P0) (e:P0→A:=by intro x0;have h9:=Option.some.inj x0;subst h9;refine And.intro rfl (Fit2.of (Yq hU rfl rfl ?_) (by omega));simp only [push_cast,seval,Ze,hN0,hN]):A:=e p0
theorem zEx {A:Prop} {P0:Prop} (p0:P0) (e:P0→A:=by intro x0;refine Z53 ?_;(try simp only [Xh,Ys,↓reduceIte,Nat.reduceEqDiff]);have h9:=Option.some.inj x0;subst h9;refine And.intro (fun h=>by cases h) (And.intro rfl (Fit2.of (Yq hU rfl rfl ?_) (by omega)));simp only [push_cast,seval,Ze,hN0,hN]):A:=e p0
theorem zCd {A B:Prop} {P0:Prop} (p0:P0) (l1:List Nat) (l2:List Bool) (b:B) (e:P0→Ar l1→Ar l2→Hid B→A:=by intro x0 x1 x2 bZ;refine Ya Z0 [] ?_;simp only [push_cast,seval,Ze,hN0,hN];refine x0.then ?_;simp only [push_cast,seval,Ze,hN0,hN];refine Zsx x1.v x2.v ?_;simp only [push_cast,seval,Ar.v];exact bZ.get):A:=e p0 ⟨⟩ ⟨⟩ ⟨b⟩
theorem zC {A B:Prop} {P0:Prop} (p0:P0) (b:B) (e:P0→Hid B→A:=by intro x0 bZ;refine Ya Z0 [] ?_;simp only [push_cast,seval,Ze,hN0,hN];refine x0.then ?_;simp only [push_cast,seval,Ze,hN0,hN];exact bZ.get):A:=e p0 ⟨b⟩
theorem zK {A B:Prop} (b:B) (e:Hid B→A:=by intro bZ;refine Z55 ?_;(try simp only [Xh,Ys]);exact bZ.get):A:=e ⟨b⟩
theorem Zsw {A B:Prop} (l0:List (Option Bool)) {P1:Prop} (p1:P1) {P2:Prop} (p2:P2) {P3:Prop} (p3:P3) {P4:Prop} (p4:P4) (b:B) (e:Ar l0→P1→P2→P3→P4→Hid B→A:=by intro x0 x1 x2 x3 x4 bZ;refine Ya Z0 x0.v ?_;simp only [push_cast,Nat.reduceAdd,Nat.reduceSub,Nat.reduceMul,Nat.reduceLeDiff,Nat.reduceLT,Nat.reduceEqDiff,↓reduceIte,reduceCtorEq,Int.reduceBEq,Int.reduceBNe,Nat.reduceBEq,Int.reduceLE,Int.reduceLT,Int.reduceEq,Int.reduceNe,Int.reduceNeg,Nat.reduceDiv,Nat.reduceMod,Nat.reducePow,Ze,Ar.v,x1,x2,x3,x4,hN0,hN];exact bZ.get):A:=e ⟨⟩ p1 p2 p3 p4 ⟨b⟩
theorem zF4 {A B:Prop} {P0:Prop} (p0:P0) {P1:Prop} (p1:P1) {P2:Prop} (p2:P2) {P3:Prop} (p3:P3) (b:B) (e:P0→P1→P2→P3→Hid B→A:=by intro x0 x1 x2 x3 bZ;simp only [push_cast,Nat.reduceAdd,Nat.reduceSub,Nat.reduceMul,Nat.reduceLeDiff,Nat.reduceLT,Nat.reduceEqDiff,↓reduceIte,reduceCtorEq,Int.reduceBEq,Int.reduceBNe,Nat.reduceBEq,Int.reduceLE,Int.reduceLT,Int.reduceEq,Int.reduceNe,Int.reduceNeg,Nat.reduceDiv,Nat.reduceMod,Nat.reducePow,Ze,x0,x1,x2,x3,hN0,hN];exact bZ.get):A:=e p0 p1 p2 p3 ⟨b⟩
theorem zDs {A B:Prop} (l0:List Nat) (l1:List Bool) (b:B) (e:Ar l0→Ar l1→Hid B→A:=by intro x0 x1 bZ;refine Zsx x0.v x1.v ?_;simp only [push_cast,seval,Ar.v];refine Zq ?_;exact bZ.get):A:=e ⟨⟩ ⟨⟩ ⟨b⟩
theorem zG {A B:Prop} (b:B) (e:Hid B→A:=by intro bZ;(repeat (with_reducible refine And.intro (by first | (intro h0;simp only [h0,and_self];done) | (intro h0;simp only [h0,Bool.not_false,Bool.not_true,Bool.true_and,Bool.and_true,true_and,and_true,and_self,imp_self,implies_true,bne_iff_ne,ne_eq,beq_iff_eq];done) | (intros;simp_all;done) | exact True.intro) ?_));exact bZ.get):A:=e ⟨b⟩
theorem Z16 {A B:Prop} (l0:List (Option Bool)) {P1:Prop} (p1:P1) {P2:Prop} (p2:P2) {P3:Prop} (p3:P3) {P4:Prop} (p4:P4) {P5:Prop} (p5:P5) {P6:Prop} (p6:P6) {P7:Prop} (p7:P7) (b:B) (e:Ar l0→P1→P2→P3→P4→P5→P6→P7→Hid B→A:=by intro x0 x1 x2 x3 x4 x5 x6 x7 bZ;refine Ya Z0 x0.v ?_;simp only [push_cast,Nat.reduceAdd,Nat.reduceSub,Nat.reduceMul,Nat.reduceLeDiff,Nat.reduceLT,Nat.reduceEqDiff,↓reduceIte,reduceCtorEq,Int.reduceBEq,Int.reduceBNe,Nat.reduceBEq,Int.reduceLE,Int.reduceLT,Int.reduceEq,Int.reduceNe,Int.reduceNeg,Nat.reduceDiv,Nat.reduceMod,Nat.reducePow,Ze,Ar.v,x1,x2,x3,x4,x5,x6,x7,hN0,hN];exact bZ.get):A:=e ⟨⟩ p1 p2 p3 p4 p5 p6 p7 ⟨b⟩
theorem zF7 {A B:Prop} {P0:Prop} (p0:P0) {P1:Prop} (p1:P1) {P2:Prop} (p2:P2) {P3:Prop} (p3:P3) {P4:Prop} (p4:P4) {P5:Prop} (p5:P5) {P6:Prop} (p6:P6) (b:B) (e:P0→P1→P2→P3→P4→P5→P6→Hid B→A:=by intro x0 x1 x2 x3 x4 x5 x6 bZ;simp only [push_cast,Nat.reduceAdd,Nat.reduceSub,Nat.reduceMul,Nat.reduceLeDiff,Nat.reduceLT,Nat.reduceEqDiff,↓reduceIte,reduceCtorEq,Int.reduceBEq,Int.reduceBNe,Nat.reduceBEq,Int.reduceLE,Int.reduceLT,Int.reduceEq,Int.reduceNe,Int.reduceNeg,Nat.reduceDiv,Nat.reduceMod,Nat.reducePow,Ze,x0,x1,x2,x3,x4,x5,x6,hN0,hN];exact bZ.get):A:=e p0 p1 p2 p3 p4 p5 p6 ⟨b⟩
theorem Z8q {A:Prop} {P0:Prop} (p0:P0) {P1:Prop} (p1:P1) {P2:Prop} (p2:P2) {P3:Prop} (p3:P3) {P4:Prop} (p4:P4) (e:P0→P1→P2→P3→P4→A:=by intro x0 x1 x2 x3 x4;have h9:=Option.some.inj x0;subst h9;refine And.intro rfl (Fit2.of (Yq hU rfl rfl ?_) (by omega));simp only [push_cast,Nat.reduceAdd,Nat.reduceSub,Nat.reduceMul,Nat.reduceLeDiff,Nat.reduceLT,Nat.reduceEqDiff,↓reduceIte,reduceCtorEq,Int.reduceBEq,Int.reduceBNe,Nat.reduceBEq,Int.reduceLE,Int.reduceLT,Int.reduceEq,Int.reduceNe,Int.reduceNeg,Nat.reduceDiv,Nat.reduceMod,Nat.reducePow,Ze,x1,x2,x3,x4,hN0,hN]):A:=e p0 p1 p2 p3 p4
theorem zRd {A B:Prop} (l0:List Nat) (l1:List Bool) (b:B) (e:Ar l0→Ar l1→Hid B→A:=by intro x0 x1 bZ;refine Ya Z0 [] ?_;simp only [push_cast,seval,Ze,hN0,hN];refine Zsx x0.v x1.v ?_;simp only [push_cast,seval,Ar.v];exact bZ.get):A:=e ⟨⟩ ⟨⟩ ⟨b⟩
theorem zW {A B:Prop} (b:B) (e:Hid B→A:=by intro bZ;refine Z98 ?_;(try simp only [Xh,Ys]);exact bZ.get):A:=e ⟨b⟩
theorem zEy {A:Prop} {P0:Prop} (p0:P0) (e:P0→A:=by intro x0;have h9:=Option.some.inj x0;subst h9;refine And.intro (fun h=>by cases h) (And.intro rfl (Fit2.of (Yq hU rfl rfl ?_) (by omega)));simp only [push_cast,seval,Ze,hN0,hN]):A:=e p0
theorem zX1 {A B:Prop} {P0:Prop} (p0:P0) (b:B) (e:P0→Hid B→A:=by intro x0 bZ;simp only [push_cast,seval,Ze,x0,hN0,hN];exact bZ.get):A:=e p0 ⟨b⟩
theorem Zcr {A:Prop} {P0:Prop} (p0:P0) {P1:Prop} (p1:P1) (e:P0→P1→A:=by intro x0 x1;have h9:=Option.some.inj x0;subst h9;refine And.intro rfl (Fit2.of (Yq hU rfl rfl ?_) (by omega));simp only [push_cast,seval,Ze,x1,hN0,hN]):A:=e p0 p1
theorem zX3 {A B:Prop} {P0:Prop} (p0:P0) {P1:Prop} (p1:P1) {P2:Prop} (p2:P2) (b:B) (e:P0→P1→P2→Hid B→A:=by intro x0 x1 x2 bZ;simp only [push_cast,seval,Ze,x0,x1,x2,hN0,hN];exact bZ.get):A:=e p0 p1 p2 ⟨b⟩
theorem Zfi {A:Prop} {P0:Prop} (p0:P0) {P1:Prop} (p1:P1) {P2:Prop} (p2:P2) {P3:Prop} (p3:P3) (e:P0→P1→P2→P3→A:=by intro x0 x1 x2 x3;have h9:=Option.some.inj x0;subst h9;refine And.intro rfl (Fit2.of (Yq hU rfl rfl ?_) (by omega));simp only [push_cast,seval,Ze,x1,x2,x3,hN0,hN]):A:=e p0 p1 p2 p3
theorem zF8 {A B:Prop} {P0:Prop} (p0:P0) {P1:Prop} (p1:P1) {P2:Prop} (p2:P2) {P3:Prop} (p3:P3) {P4:Prop} (p4:P4) {P5:Prop} (p5:P5) {P6:Prop} (p6:P6) {P7:Prop} (p7:P7) (b:B) (e:P0→P1→P2→P3→P4→P5→P6→P7→Hid B→A:=by intro x0 x1 x2 x3 x4 x5 x6 x7 bZ;simp only [push_cast,Nat.reduceAdd,Nat.reduceSub,Nat.reduceMul,Nat.reduceLeDiff,Nat.reduceLT,Nat.reduceEqDiff,↓reduceIte,reduceCtorEq,Int.reduceBEq,Int.reduceBNe,Nat.reduceBEq,Int.reduceLE,Int.reduceLT,Int.reduceEq,Int.reduceNe,Int.reduceNeg,Nat.reduceDiv,Nat.reduceMod,Nat.reducePow,Ze,x0,x1,x2,x3,x4,x5,x6,x7,hN0,hN];exact bZ.get):A:=e p0 p1 p2 p3 p4 p5 p6 p7 ⟨b⟩
theorem Ydv {A:Prop} {P0:Prop} (p0:P0) {P1:Prop} (p1:P1) {P2:Prop} (p2:P2) {P3:Prop} (p3:P3) {P4:Prop} (p4:P4) {P5:Prop} (p5:P5) {P6:Prop} (p6:P6) {P7:Prop} (p7:P7) {P8:Prop} (p8:P8) (e:P0→P1→P2→P3→P4→P5→P6→P7→P8→A:=by intro x0 x1 x2 x3 x4 x5 x6 x7 x8;have h9:=Option.some.inj x0;subst h9;refine And.intro rfl (Fit2.of (Yq hU rfl rfl ?_) (by omega));simp only [push_cast,Nat.reduceAdd,Nat.reduceSub,Nat.reduceMul,Nat.reduceLeDiff,Nat.reduceLT,Nat.reduceEqDiff,↓reduceIte,reduceCtorEq,Int.reduceBEq,Int.reduceBNe,Nat.reduceBEq,Int.reduceLE,Int.reduceLT,Int.reduceEq,Int.reduceNe,Int.reduceNeg,Nat.reduceDiv,Nat.reduceMod,Nat.reducePow,Ze,x1,x2,x3,x4,x5,x6,x7,x8,hN0,hN]):A:=e p0 p1 p2 p3 p4 p5 p6 p7 p8
theorem zX5 {A B:Prop} {P0:Prop} (p0:P0) {P1:Prop} (p1:P1) {P2:Prop} (p2:P2) {P3:Prop} (p3:P3) {P4:Prop} (p4:P4) (b:B) (e:P0→P1→P2→P3→P4→Hid B→A:=by intro x0 x1 x2 x3 x4 bZ;simp only [push_cast,seval,Ze,x0,x1,x2,x3,x4,hN0,hN];exact bZ.get):A:=e p0 p1 p2 p3 p4 ⟨b⟩
theorem Yau {A:Prop} {P0:Prop} (p0:P0) {P1:Prop} (p1:P1) {P2:Prop} (p2:P2) {P3:Prop} (p3:P3) {P4:Prop} (p4:P4) {P5:Prop} (p5:P5) (e:P0→P1→P2→P3→P4→P5→A:=by intro x0 x1 x2 x3 x4 x5;have h9:=Option.some.inj x0;subst h9;refine And.intro rfl (Fit2.of (Yq hU rfl rfl ?_) (by omega));simp only [push_cast,seval,Ze,x1,x2,x3,x4,x5,hN0,hN]):A:=e p0 p1 p2 p3 p4 p5
theorem zX4 {A B:Prop} {P0:Prop} (p0:P0) {P1:Prop} (p1:P1) {P2:Prop} (p2:P2) {P3:Prop} (p3:P3) (b:B) (e:P0→P1→P2→P3→Hid B→A:=by intro x0 x1 x2 x3 bZ;simp only [push_cast,seval,Ze,x0,x1,x2,x3,hN0,hN];exact bZ.get):A:=e p0 p1 p2 p3 ⟨b⟩
theorem Z14 {A:Prop} {P0:Prop} (p0:P0) {P1:Prop} (p1:P1) {P2:Prop} (p2:P2) {P3:Prop} (p3:P3) {P4:Prop} (p4:P4) (e:P0→P1→P2→P3→P4→A:=by intro x0 x1 x2 x3 x4;have h9:=Option.some.inj x0;subst h9;refine And.intro rfl (Fit2.of (Yq hU rfl rfl ?_) (by omega));simp only [push_cast,seval,Ze,x1,x2,x3,x4,hN0,hN]):A:=e p0 p1 p2 p3 p4
theorem Z13 {A:Prop} {P0:Prop} (p0:P0) {P1:Prop} (p1:P1) {P2:Prop} (p2:P2) {P3:Prop} (p3:P3) {P4:Prop} (p4:P4) {P5:Prop} (p5:P5) {P6:Prop} (p6:P6) {P7:Prop} (p7:P7) (e:P0→P1→P2→P3→P4→P5→P6→P7→A:=by intro x0 x1 x2 x3 x4 x5 x6 x7;have h9:=Option.some.inj x0;subst h9;refine And.intro rfl (Fit2.of (Yq hU rfl rfl ?_) (by omega));simp only [push_cast,Nat.reduceAdd,Nat.reduceSub,Nat.reduceMul,Nat.reduceLeDiff,Nat.reduceLT,Nat.reduceEqDiff,↓reduceIte,reduceCtorEq,Int.reduceBEq,Int.reduceBNe,Nat.reduceBEq,Int.reduceLE,Int.reduceLT,Int.reduceEq,Int.reduceNe,Int.reduceNeg,Nat.reduceDiv,Nat.reduceMod,Nat.reducePow,Ze,x1,x2,x3,x4,x5,x6,x7,hN0,hN]):A:=e p0 p1 p2 p3 p4 p5 p6 p7
theorem Zmw {A:Prop} (l0:List G) (e:Ar l0→A:=by intro x0;have h:=Option.some.inj h;subst h;refine Zyk (.inr rfl) hU x0.v (by omega) ?_;simp only [push_cast,seval,Ze,Ar.v,hN0,hN]):A:=e ⟨⟩
theorem Yfl {A B:Prop} (l0:List Nat) {P1:Prop} (p1:P1) (b:B) (e:Ar l0→P1→Hid B→A:=by intro x0 x1 bZ;refine Zce x0.v (Ya Z0 [] ?_);simp only [push_cast,seval,Ze,Ar.v,x1,hN0,hN];exact bZ.get):A:=e ⟨⟩ p1 ⟨b⟩
theorem Zeu {A B:Prop} (l0:List (Option Bool)) {P1:Prop} (p1:P1) {P2:Prop} (p2:P2) {P3:Prop} (p3:P3) (b:B) (e:Ar l0→P1→P2→P3→Hid B→A:=by intro x0 x1 x2 x3 bZ;refine Ya Z0 x0.v ?_;simp only [push_cast,seval,Ze,Ar.v,x1,x2,x3,hN0,hN];exact bZ.get):A:=e ⟨⟩ p1 p2 p3 ⟨b⟩
theorem Jg {A B:Prop} (l0:List (Option Bool)) {P1:Prop} (p1:P1) {P2:Prop} (p2:P2) (b:B) (e:Ar l0→P1→P2→Hid B→A:=by intro x0 x1 x2 bZ;refine Ya Z0 x0.v ?_;simp only [push_cast,seval,Ze,Ar.v,x1,x2,hN0,hN];exact bZ.get):A:=e ⟨⟩ p1 p2 ⟨b⟩
theorem Z4m {A B:Prop} (l0:List (Option Bool)) {P1:Prop} (p1:P1) {P2:Prop} (p2:P2) {P3:Prop} (p3:P3) {P4:Prop} (p4:P4) (b:B) (e:Ar l0→P1→P2→P3→P4→Hid B→A:=by intro x0 x1 x2 x3 x4 bZ;refine Ya Z0 x0.v ?_;simp only [push_cast,seval,Ze,Ar.v,x1,x2,x3,x4,hN0,hN];exact bZ.get):A:=e ⟨⟩ p1 p2 p3 p4 ⟨b⟩
theorem Qu {A:Prop} {P0:Prop} (p0:P0) {P1:Prop} (p1:P1) (e:P0→P1→A:=by intro x0 x1;simp only [push_cast,seval,Ze,x0,x1,hN0,hN]):A:=e p0 p1
theorem zX2 {A B:Prop} {P0:Prop} (p0:P0) {P1:Prop} (p1:P1) (b:B) (e:P0→P1→Hid B→A:=by intro x0 x1 bZ;simp only [push_cast,seval,Ze,x0,x1,hN0,hN];exact bZ.get):A:=e p0 p1 ⟨b⟩
theorem Zjo {A:Prop} {P0:Prop} (p0:P0) {P1:Prop} (p1:P1) {P2:Prop} (p2:P2) (e:P0→P1→P2→A:=by intro x0 x1 x2;have h9:=Option.some.inj x0;subst h9;refine And.intro rfl (Fit2.of (Yq hU rfl rfl ?_) (by omega));simp only [push_cast,seval,Ze,x1,x2,hN0,hN]):A:=e p0 p1 p2
theorem Zd4 {A B:Prop} (l0:List (Option Bool)) {P1:Prop} (p1:P1) (b:B) (e:Ar l0→P1→Hid B→A:=by intro x0 x1 bZ;refine Ya Z0 x0.v ?_;simp only [push_cast,seval,Ze,Ar.v,x1,hN0,hN];exact bZ.get):A:=e ⟨⟩ p1 ⟨b⟩
theorem Yfm {A:Prop} {P0:Prop} (p0:P0) {P1:Prop} (p1:P1) {P2:Prop} (p2:P2) {P3:Prop} (p3:P3) (e:P0→P1→P2→P3→A:=by intro x0 x1 x2 x3;simp only [push_cast,seval,Ze,x0,x1,x2,x3,hN0,hN]):A:=e p0 p1 p2 p3
theorem Yd1 {A B:Prop} (l0:List Nat) {P1:Prop} (p1:P1) {P2:Prop} (p2:P2) {P3:Prop} (p3:P3) {P4:Prop} (p4:P4) (b:B) (e:Ar l0→P1→P2→P3→P4→Hid B→A:=by intro x0 x1 x2 x3 x4 bZ;refine Zce x0.v (Ya Z0 [] ?_);simp only [push_cast,seval,Ze,Ar.v,x1,x2,x3,x4,hN0,hN];exact bZ.get):A:=e ⟨⟩ p1 p2 p3 p4 ⟨b⟩
theorem Z15 {A B:Prop} (l0:List (Option Bool)) {P1:Prop} (p1:P1) {P2:Prop} (p2:P2) {P3:Prop} (p3:P3) {P4:Prop} (p4:P4) {P5:Prop} (p5:P5) (b:B) (e:Ar l0→P1→P2→P3→P4→P5→Hid B→A:=by intro x0 x1 x2 x3 x4 x5 bZ;refine Ya Z0 x0.v ?_;simp only [push_cast,Nat.reduceAdd,Nat.reduceSub,Nat.reduceMul,Nat.reduceLeDiff,Nat.reduceLT,Nat.reduceEqDiff,↓reduceIte,reduceCtorEq,Int.reduceBEq,Int.reduceBNe,Nat.reduceBEq,Int.reduceLE,Int.reduceLT,Int.reduceEq,Int.reduceNe,Int.reduceNeg,Nat.reduceDiv,Nat.reduceMod,Nat.reducePow,Ze,Ar.v,x1,x2,x3,x4,x5,hN0,hN];exact bZ.get):A:=e ⟨⟩ p1 p2 p3 p4 p5 ⟨b⟩
theorem Yas {A:Prop} {P0:Prop} (p0:P0) {P1:Prop} (p1:P1) {P2:Prop} (p2:P2) {P3:Prop} (p3:P3) {P4:Prop} (p4:P4) {P5:Prop} (p5:P5) (e:P0→P1→P2→P3→P4→P5→A:=by intro x0 x1 x2 x3 x4 x5;have h9:=Option.some.inj x0;subst h9;refine And.intro rfl (Fit2.of (Yq hU rfl rfl ?_) (by omega));simp only [push_cast,Nat.reduceAdd,Nat.reduceSub,Nat.reduceMul,Nat.reduceLeDiff,Nat.reduceLT,Nat.reduceEqDiff,↓reduceIte,reduceCtorEq,Int.reduceBEq,Int.reduceBNe,Nat.reduceBEq,Int.reduceLE,Int.reduceLT,Int.reduceEq,Int.reduceNe,Int.reduceNeg,Nat.reduceDiv,Nat.reduceMod,Nat.reducePow,Ze,x1,x2,x3,x4,x5,hN0,hN]):A:=e p0 p1 p2 p3 p4 p5
theorem zS {A B:Prop} (b:B) (e:Hid B→A:=by intro bZ;simp only [push_cast,seval,Ze,hN0,hN];exact bZ.get):A:=e ⟨b⟩
theorem zTs {A B:Prop} {P0:Prop} (p0:P0) (b:B) (e:P0→Hid B→A:=by intro x0 bZ;refine x0.then ?_;simp only [push_cast,seval,Ze,hN0,hN];exact bZ.get):A:=e p0 ⟨b⟩
theorem zSe {A:Prop} (e:A:=by simp only [push_cast,seval,Ze,hN0,hN]):A:=e
theorem Zec {A B:Prop} (l0:List Nat) {P1:Prop} (p1:P1) {P2:Prop} (p2:P2) (b:B) (e:Ar l0→P1→P2→Hid B→A:=by intro x0 x1 x2 bZ;refine Zce x0.v (Ya Z0 [] ?_);simp only [push_cast,seval,Ze,Ar.v,x1,x2,hN0,hN];exact bZ.get):A:=e ⟨⟩ p1 p2 ⟨b⟩
theorem zF9 {A B:Prop} {P0:Prop} (p0:P0) {P1:Prop} (p1:P1) {P2:Prop} (p2:P2) {P3:Prop} (p3:P3) {P4:Prop} (p4:P4) {P5:Prop} (p5:P5) {P6:Prop} (p6:P6) {P7:Prop} (p7:P7) {P8:Prop} (p8:P8) (b:B) (e:P0→P1→P2→P3→P4→P5→P6→P7→P8→Hid B→A:=by intro x0 x1 x2 x3 x4 x5 x6 x7 x8 bZ;simp only [push_cast,Nat.reduceAdd,Nat.reduceSub,Nat.reduceMul,Nat.reduceLeDiff,Nat.reduceLT,Nat.reduceEqDiff,↓reduceIte,reduceCtorEq,Int.reduceBEq,Int.reduceBNe,Nat.reduceBEq,Int.reduceLE,Int.reduceLT,Int.reduceEq,Int.reduceNe,Int.reduceNeg,Nat.reduceDiv,Nat.reduceMod,Nat.reducePow,Ze,x0,x1,x2,x3,x4,x5,x6,x7,x8,hN0,hN];exact bZ.get):A:=e p0 p1 p2 p3 p4 p5 p6 p7 p8 ⟨b⟩
theorem zO {A B:Prop} (b:B) (e:Hid B→A:=by intro bZ;(repeat (with_reducible refine And.intro (by first | omega | exact Z6 rfl | exact Zw | exact Z43 rfl | exact Zzq rfl rfl | exact Zy rfl | exact Zu rfl) ?_));exact bZ.get):A:=e ⟨b⟩
theorem Z3f {A:Prop} {P0:Prop} (p0:P0) {P1:Prop} (p1:P1) {P2:Prop} (p2:P2) {P3:Prop} (p3:P3) {P4:Prop} (p4:P4) {P5:Prop} (p5:P5) {P6:Prop} (p6:P6) {P7:Prop} (p7:P7) {P8:Prop} (p8:P8) (e:P0→P1→P2→P3→P4→P5→P6→P7→P8→A:=by intro x0 x1 x2 x3 x4 x5 x6 x7 x8;simp only [push_cast,Nat.reduceAdd,Nat.reduceSub,Nat.reduceMul,Nat.reduceLeDiff,Nat.reduceLT,Nat.reduceEqDiff,↓reduceIte,reduceCtorEq,Int.reduceBEq,Int.reduceBNe,Nat.reduceBEq,Int.reduceLE,Int.reduceLT,Int.reduceEq,Int.reduceNe,Int.reduceNeg,Nat.reduceDiv,Nat.reduceMod,Nat.reducePow,Ze,x0,x1,x2,x3,x4,x5,x6,x7,x8,hN0,hN]):A:=e p0 p1 p2 p3 p4 p5 p6 p7 p8
theorem zXt {A B:Prop} (b:B) (e:Hid B→A:=by intro bZ;refine Z53 ?_;(try simp only [Xh,Ys,↓reduceIte,Nat.reduceEqDiff]);exact bZ.get):A:=e ⟨b⟩
theorem Z97 {A:Prop} {P0:Prop} (p0:P0) {P1:Prop} (p1:P1) {P2:Prop} (p2:P2) (e:P0→P1→P2→A:=by intro x0 x1 x2;simp only [push_cast,seval,Ze,x0,x1,x2,hN0,hN]):A:=e p0 p1 p2
theorem zF6 {A B:Prop} {P0:Prop} (p0:P0) {P1:Prop} (p1:P1) {P2:Prop} (p2:P2) {P3:Prop} (p3:P3) {P4:Prop} (p4:P4) {P5:Prop} (p5:P5) (b:B) (e:P0→P1→P2→P3→P4→P5→Hid B→A:=by intro x0 x1 x2 x3 x4 x5 bZ;simp only [push_cast,Nat.reduceAdd,Nat.reduceSub,Nat.reduceMul,Nat.reduceLeDiff,Nat.reduceLT,Nat.reduceEqDiff,↓reduceIte,reduceCtorEq,Int.reduceBEq,Int.reduceBNe,Nat.reduceBEq,Int.reduceLE,Int.reduceLT,Int.reduceEq,Int.reduceNe,Int.reduceNeg,Nat.reduceDiv,Nat.reduceMod,Nat.reducePow,Ze,x0,x1,x2,x3,x4,x5,hN0,hN];exact bZ.get):A:=e p0 p1 p2 p3 p4 p5 ⟨b⟩
theorem Yd2 {A B:Prop} {P0:Prop} (p0:P0) {P1:Prop} (p1:P1) {P2:Prop} (p2:P2) {P3:Prop} (p3:P3) {P4:Prop} (p4:P4) {P5:Prop} (p5:P5) {P6:Prop} (p6:P6) {P7:Prop} (p7:P7) {P8:Prop} (p8:P8) {P9:Prop} (p9:P9) (b:B) (e:P0→P1→P2→P3→P4→P5→P6→P7→P8→P9→Hid B→A:=by intro x0 x1 x2 x3 x4 x5 x6 x7 x8 x9 bZ;refine Ya Z0 [] ?_;simp only [push_cast,Nat.reduceAdd,Nat.reduceSub,Nat.reduceMul,Nat.reduceLeDiff,Nat.reduceLT,Nat.reduceEqDiff,↓reduceIte,reduceCtorEq,Int.reduceBEq,Int.reduceBNe,Nat.reduceBEq,Int.reduceLE,Int.reduceLT,Int.reduceEq,Int.reduceNe,Int.reduceNeg,Nat.reduceDiv,Nat.reduceMod,Nat.reducePow,Ze,x0,x1,x2,x3,x4,x5,x6,x7,x8,x9,hN0,hN];exact bZ.get):A:=e p0 p1 p2 p3 p4 p5 p6 p7 p8 p9 ⟨b⟩
theorem Ybk {A B:Prop} {P0:Prop} (p0:P0) {P1:Prop} (p1:P1) {P2:Prop} (p2:P2) {P3:Prop} (p3:P3) {P4:Prop} (p4:P4) {P5:Prop} (p5:P5) {P6:Prop} (p6:P6) {P7:Prop} (p7:P7) {P8:Prop} (p8:P8) {P9:Prop} (p9:P9) {P10:Prop} (p10:P10) {P11:Prop} (p11:P11) (b:B) (e:P0→P1→P2→P3→P4→P5→P6→P7→P8→P9→P10→P11→Hid B→A:=by intro x0 x1 x2 x3 x4 x5 x6 x7 x8 x9 x10 x11 bZ;simp only [push_cast,Nat.reduceAdd,Nat.reduceSub,Nat.reduceMul,Nat.reduceLeDiff,Nat.reduceLT,Nat.reduceEqDiff,↓reduceIte,reduceCtorEq,Int.reduceBEq,Int.reduceBNe,Nat.reduceBEq,Int.reduceLE,Int.reduceLT,Int.reduceEq,Int.reduceNe,Int.reduceNeg,Nat.reduceDiv,Nat.reduceMod,Nat.reducePow,Ze,x0,x1,x2,x3,x4,x5,x6,x7,x8,x9,x10,x11,hN0,hN];exact bZ.get):A:=e p0 p1 p2 p3 p4 p5 p6 p7 p8 p9 p10 p11 ⟨b⟩
theorem Z8r {A:Prop} {P0:Prop} (p0:P0) {P1:Prop} (p1:P1) {P2:Prop} (p2:P2) {P3:Prop} (p3:P3) {P4:Prop} (p4:P4) {P5:Prop} (p5:P5) {P6:Prop} (p6:P6) {P7:Prop} (p7:P7) {P8:Prop} (p8:P8) {P9:Prop} (p9:P9) {P10:Prop} (p10:P10) {P11:Prop} (p11:P11) (e:P0→P1→P2→P3→P4→P5→P6→P7→P8→P9→P10→P11→A:=by intro x0 x1 x2 x3 x4 x5 x6 x7 x8 x9 x10 x11;simp only [push_cast,Nat.reduceAdd,Nat.reduceSub,Nat.reduceMul,Nat.reduceLeDiff,Nat.reduceLT,Nat.reduceEqDiff,↓reduceIte,reduceCtorEq,Int.reduceBEq,Int.reduceBNe,Nat.reduceBEq,Int.reduceLE,Int.reduceLT,Int.reduceEq,Int.reduceNe,Int.reduceNeg,Nat.reduceDiv,Nat.reduceMod,Nat.reducePow,Ze,x0,x1,x2,x3,x4,x5,x6,x7,x8,x9,x10,x11,hN0,hN]):A:=e p0 p1 p2 p3 p4 p5 p6 p7 p8 p9 p10 p11
theorem Ydw {A B:Prop} {P0:Prop} (p0:P0) {P1:Prop} (p1:P1) {P2:Prop} (p2:P2) {P3:Prop} (p3:P3) {P4:Prop} (p4:P4) {P5:Prop} (p5:P5) {P6:Prop} (p6:P6) {P7:Prop} (p7:P7) {P8:Prop} (p8:P8) {P9:Prop} (p9:P9) (b:B) (e:P0→P1→P2→P3→P4→P5→P6→P7→P8→P9→Hid B→A:=by intro x0 x1 x2 x3 x4 x5 x6 x7 x8 x9 bZ;simp only [push_cast,Nat.reduceAdd,Nat.reduceSub,Nat.reduceMul,Nat.reduceLeDiff,Nat.reduceLT,Nat.reduceEqDiff,↓reduceIte,reduceCtorEq,Int.reduceBEq,Int.reduceBNe,Nat.reduceBEq,Int.reduceLE,Int.reduceLT,Int.reduceEq,Int.reduceNe,Int.reduceNeg,Nat.reduceDiv,Nat.reduceMod,Nat.reducePow,Ze,x0,x1,x2,x3,x4,x5,x6,x7,x8,x9,hN0,hN];exact bZ.get):A:=e p0 p1 p2 p3 p4 p5 p6 p7 p8 p9 ⟨b⟩
theorem Ydy {A:Prop} {P0:Prop} (p0:P0) {P1:Prop} (p1:P1) {P2:Prop} (p2:P2) {P3:Prop} (p3:P3) {P4:Prop} (p4:P4) {P5:Prop} (p5:P5) {P6:Prop} (p6:P6) {P7:Prop} (p7:P7) {P8:Prop} (p8:P8) {P9:Prop} (p9:P9) (e:P0→P1→P2→P3→P4→P5→P6→P7→P8→P9→A:=by intro x0 x1 x2 x3 x4 x5 x6 x7 x8 x9;simp only [push_cast,Nat.reduceAdd,Nat.reduceSub,Nat.reduceMul,Nat.reduceLeDiff,Nat.reduceLT,Nat.reduceEqDiff,↓reduceIte,reduceCtorEq,Int.reduceBEq,Int.reduceBNe,Nat.reduceBEq,Int.reduceLE,Int.reduceLT,Int.reduceEq,Int.reduceNe,Int.reduceNeg,Nat.reduceDiv,Nat.reduceMod,Nat.reducePow,Ze,x0,x1,x2,x3,x4,x5,x6,x7,x8,x9,hN0,hN]):A:=e p0 p1 p2 p3 p4 p5 p6 p7 p8 p9
theorem zF5 {A B:Prop} {P0:Prop} (p0:P0) {P1:Prop} (p1:P1) {P2:Prop} (p2:P2) {P3:Prop} (p3:P3) {P4:Prop} (p4:P4) (b:B) (e:P0→P1→P2→P3→P4→Hid B→A:=by intro x0 x1 x2 x3 x4 bZ;simp only [push_cast,Nat.reduceAdd,Nat.reduceSub,Nat.reduceMul,Nat.reduceLeDiff,Nat.reduceLT,Nat.reduceEqDiff,↓reduceIte,reduceCtorEq,Int.reduceBEq,Int.reduceBNe,Nat.reduceBEq,Int.reduceLE,Int.reduceLT,Int.reduceEq,Int.reduceNe,Int.reduceNeg,Nat.reduceDiv,Nat.reduceMod,Nat.reducePow,Ze,x0,x1,x2,x3,x4,hN0,hN];exact bZ.get):A:=e p0 p1 p2 p3 p4 ⟨b⟩
theorem Yd3 {A B:Prop} (l0:List (Option Bool)) {P1:Prop} (p1:P1) {P2:Prop} (p2:P2) {P3:Prop} (p3:P3) {P4:Prop} (p4:P4) {P5:Prop} (p5:P5) {P6:Prop} (p6:P6) (b:B) (e:Ar l0→P1→P2→P3→P4→P5→P6→Hid B→A:=by intro x0 x1 x2 x3 x4 x5 x6 bZ;refine Ya Z0 x0.v ?_;simp only [push_cast,seval,Ze,Ar.v,x1,x2,x3,x4,x5,x6,hN0,hN];exact bZ.get):A:=e ⟨⟩ p1 p2 p3 p4 p5 p6 ⟨b⟩
theorem Yd6 {A:Prop} {P0:Prop} (p0:P0) {P1:Prop} (p1:P1) {P2:Prop} (p2:P2) {P3:Prop} (p3:P3) {P4:Prop} (p4:P4) {P5:Prop} (p5:P5) (e:P0→P1→P2→P3→P4→P5→A:=by intro x0 x1 x2 x3 x4 x5;simp only [push_cast,seval,Ze,x0,x1,x2,x3,x4,x5,hN0,hN]):A:=e p0 p1 p2 p3 p4 p5
theorem zX6 {A B:Prop} {P0:Prop} (p0:P0) {P1:Prop} (p1:P1) {P2:Prop} (p2:P2) {P3:Prop} (p3:P3) {P4:Prop} (p4:P4) {P5:Prop} (p5:P5) (b:B) (e:P0→P1→P2→P3→P4→P5→Hid B→A:=by intro x0 x1 x2 x3 x4 x5 bZ;simp only [push_cast,seval,Ze,x0,x1,x2,x3,x4,x5,hN0,hN];exact bZ.get):A:=e p0 p1 p2 p3 p4 p5 ⟨b⟩
theorem Yd5 {A:Prop} {P0:Prop} (p0:P0) {P1:Prop} (p1:P1) {P2:Prop} (p2:P2) {P3:Prop} (p3:P3) {P4:Prop} (p4:P4) (e:P0→P1→P2→P3→P4→A:=by intro x0 x1 x2 x3 x4;simp only [push_cast,seval,Ze,x0,x1,x2,x3,x4,hN0,hN]):A:=e p0 p1 p2 p3 p4
theorem zEf {A:Prop} (e:A:=by refine And.intro rfl (Fit2.of (Yq hU rfl rfl ?_) (by omega));simp only [push_cast,seval,Ze,hN0,hN]):A:=e
theorem Yd4 {A B:Prop} (l0:List (Option Bool)) {P1:Prop} (p1:P1) {P2:Prop} (p2:P2) {P3:Prop} (p3:P3) {P4:Prop} (p4:P4) {P5:Prop} (p5:P5) {P6:Prop} (p6:P6) {P7:Prop} (p7:P7) (b:B) (e:Ar l0→P1→P2→P3→P4→P5→P6→P7→Hid B→A:=by intro x0 x1 x2 x3 x4 x5 x6 x7 bZ;refine Ya Z0 x0.v ?_;simp only [push_cast,seval,Ze,Ar.v,x1,x2,x3,x4,x5,x6,x7,hN0,hN];exact bZ.get):A:=e ⟨⟩ p1 p2 p3 p4 p5 p6 p7 ⟨b⟩
theorem Z8s {A B:Prop} (l0:List (Option Bool)) {P1:Prop} (p1:P1) {P2:Prop} (p2:P2) {P3:Prop} (p3:P3) {P4:Prop} (p4:P4) {P5:Prop} (p5:P5) {P6:Prop} (p6:P6) (b:B) (e:Ar l0→P1→P2→P3→P4→P5→P6→Hid B→A:=by intro x0 x1 x2 x3 x4 x5 x6 bZ;refine Ya Z0 x0.v ?_;simp only [push_cast,Nat.reduceAdd,Nat.reduceSub,Nat.reduceMul,Nat.reduceLeDiff,Nat.reduceLT,Nat.reduceEqDiff,↓reduceIte,reduceCtorEq,Int.reduceBEq,Int.reduceBNe,Nat.reduceBEq,Int.reduceLE,Int.reduceLT,Int.reduceEq,Int.reduceNe,Int.reduceNeg,Nat.reduceDiv,Nat.reduceMod,Nat.reducePow,Ze,Ar.v,x1,x2,x3,x4,x5,x6,hN0,hN];exact bZ.get):A:=e ⟨⟩ p1 p2 p3 p4 p5 p6 ⟨b⟩
theorem Yd0 {A:Prop} {P0:Prop} (p0:P0) {P1:Prop} (p1:P1) {P2:Prop} (p2:P2) {P3:Prop} (p3:P3) {P4:Prop} (p4:P4) {P5:Prop} (p5:P5) (e:P0→P1→P2→P3→P4→P5→A:=by intro x0 x1 x2 x3 x4 x5;simp only [push_cast,Nat.reduceAdd,Nat.reduceSub,Nat.reduceMul,Nat.reduceLeDiff,Nat.reduceLT,Nat.reduceEqDiff,↓reduceIte,reduceCtorEq,Int.reduceBEq,Int.reduceBNe,Nat.reduceBEq,Int.reduceLE,Int.reduceLT,Int.reduceEq,Int.reduceNe,Int.reduceNeg,Nat.reduceDiv,Nat.reduceMod,Nat.reducePow,Ze,x0,x1,x2,x3,x4,x5,hN0,hN]):A:=e p0 p1 p2 p3 p4 p5
theorem Yat {A:Prop} {P0:Prop} (p0:P0) {P1:Prop} (p1:P1) {P2:Prop} (p2:P2) {P3:Prop} (p3:P3) {P4:Prop} (p4:P4) {P5:Prop} (p5:P5) {P6:Prop} (p6:P6) (e:P0→P1→P2→P3→P4→P5→P6→A:=by intro x0 x1 x2 x3 x4 x5 x6;have h9:=Option.some.inj x0;subst h9;refine And.intro rfl (Fit2.of (Yq hU rfl rfl ?_) (by omega));simp only [push_cast,Nat.reduceAdd,Nat.reduceSub,Nat.reduceMul,Nat.reduceLeDiff,Nat.reduceLT,Nat.reduceEqDiff,↓reduceIte,reduceCtorEq,Int.reduceBEq,Int.reduceBNe,Nat.reduceBEq,Int.reduceLE,Int.reduceLT,Int.reduceEq,Int.reduceNe,Int.reduceNeg,Nat.reduceDiv,Nat.reduceMod,Nat.reducePow,Ze,x1,x2,x3,x4,x5,x6,hN0,hN]):A:=e p0 p1 p2 p3 p4 p5 p6
theorem Yfk {A:Prop} {P0:Prop} (p0:P0) {P1:Prop} (p1:P1) {P2:Prop} (p2:P2) {P3:Prop} (p3:P3) {P4:Prop} (p4:P4) {P5:Prop} (p5:P5) {P6:Prop} (p6:P6) {P7:Prop} (p7:P7) (e:P0→P1→P2→P3→P4→P5→P6→P7→A:=by intro x0 x1 x2 x3 x4 x5 x6 x7;simp only [push_cast,Nat.reduceAdd,Nat.reduceSub,Nat.reduceMul,Nat.reduceLeDiff,Nat.reduceLT,Nat.reduceEqDiff,↓reduceIte,reduceCtorEq,Int.reduceBEq,Int.reduceBNe,Nat.reduceBEq,Int.reduceLE,Int.reduceLT,Int.reduceEq,Int.reduceNe,Int.reduceNeg,Nat.reduceDiv,Nat.reduceMod,Nat.reducePow,Ze,x0,x1,x2,x3,x4,x5,x6,x7,hN0,hN]):A:=e p0 p1 p2 p3 p4 p5 p6 p7
theorem Ydx {A B:Prop} {P0:Prop} (p0:P0) {P1:Prop} (p1:P1) {P2:Prop} (p2:P2) {P3:Prop} (p3:P3) {P4:Prop} (p4:P4) {P5:Prop} (p5:P5) {P6:Prop} (p6:P6) {P7:Prop} (p7:P7) {P8:Prop} (p8:P8) {P9:Prop} (p9:P9) {P10:Prop} (p10:P10) (b:B) (e:P0→P1→P2→P3→P4→P5→P6→P7→P8→P9→P10→Hid B→A:=by intro x0 x1 x2 x3 x4 x5 x6 x7 x8 x9 x10 bZ;simp only [push_cast,Nat.reduceAdd,Nat.reduceSub,Nat.reduceMul,Nat.reduceLeDiff,Nat.reduceLT,Nat.reduceEqDiff,↓reduceIte,reduceCtorEq,Int.reduceBEq,Int.reduceBNe,Nat.reduceBEq,Int.reduceLE,Int.reduceLT,Int.reduceEq,Int.reduceNe,Int.reduceNeg,Nat.reduceDiv,Nat.reduceMod,Nat.reducePow,Ze,x0,x1,x2,x3,x4,x5,x6,x7,x8,x9,x10,hN0,hN];exact bZ.get):A:=e p0 p1 p2 p3 p4 p5 p6 p7 p8 p9 p10 ⟨b⟩
theorem Ydz {A:Prop} {P0:Prop} (p0:P0) {P1:Prop} (p1:P1) {P2:Prop} (p2:P2) {P3:Prop} (p3:P3) {P4:Prop} (p4:P4) {P5:Prop} (p5:P5) {P6:Prop} (p6:P6) {P7:Prop} (p7:P7) {P8:Prop} (p8:P8) {P9:Prop} (p9:P9) {P10:Prop} (p10:P10) (e:P0→P1→P2→P3→P4→P5→P6→P7→P8→P9→P10→A:=by intro x0 x1 x2 x3 x4 x5 x6 x7 x8 x9 x10;simp only [push_cast,Nat.reduceAdd,Nat.reduceSub,Nat.reduceMul,Nat.reduceLeDiff,Nat.reduceLT,Nat.reduceEqDiff,↓reduceIte,reduceCtorEq,Int.reduceBEq,Int.reduceBNe,Nat.reduceBEq,Int.reduceLE,Int.reduceLT,Int.reduceEq,Int.reduceNe,Int.reduceNeg,Nat.reduceDiv,Nat.reduceMod,Nat.reducePow,Ze,x0,x1,x2,x3,x4,x5,x6,x7,x8,x9,x10,hN0,hN]):A:=e p0 p1 p2 p3 p4 p5 p6 p7 p8 p9 p10
theorem Ydu {A:Prop} {P0:Prop} (p0:P0) {P1:Prop} (p1:P1) {P2:Prop} (p2:P2) {P3:Prop} (p3:P3) {P4:Prop} (p4:P4) {P5:Prop} (p5:P5) (e:P0→P1→P2→P3→P4→P5→A:=by intro x0 x1 x2 x3 x4 x5;refine And.intro rfl (Fit2.of (Yq hU rfl rfl ?_) (by omega));simp only [push_cast,Nat.reduceAdd,Nat.reduceSub,Nat.reduceMul,Nat.reduceLeDiff,Nat.reduceLT,Nat.reduceEqDiff,↓reduceIte,reduceCtorEq,Int.reduceBEq,Int.reduceBNe,Nat.reduceBEq,Int.reduceLE,Int.reduceLT,Int.reduceEq,Int.reduceNe,Int.reduceNeg,Nat.reduceDiv,Nat.reduceMod,Nat.reducePow,Ze,x0,x1,x2,x3,x4,x5,hN0,hN]):A:=e p0 p1 p2 p3 p4 p5
theorem Yav {A:Prop} {P0:Prop} (p0:P0) {P1:Prop} (p1:P1) {P2:Prop} (p2:P2) {P3:Prop} (p3:P3) {P4:Prop} (p4:P4) {P5:Prop} (p5:P5) {P6:Prop} (p6:P6) (e:P0→P1→P2→P3→P4→P5→P6→A:=by intro x0 x1 x2 x3 x4 x5 x6;have h9:=Option.some.inj x0;subst h9;refine And.intro rfl (Fit2.of (Yq hU rfl rfl ?_) (by omega));simp only [push_cast,seval,Ze,x1,x2,x3,x4,x5,x6,hN0,hN]):A:=e p0 p1 p2 p3 p4 p5 p6
end Go.Proofs.Ytocpndlnbmjpmaa
