/- Part KD of this seat's mirrors: functions of the seat's program, and the plain functions that they are; each theorem bears its own conditions. -/
import Derived.Test.YtjeakjakgocoaaaH25
import Derived.Test.YtjeakjakgocoaaaTy
namespace Go.Proofs.Ytjeakjakgocoaaa
open Go.RowKit
set_option linter.unusedVariables false
set_option linter.unusedSimpArgs false
set_option maxRecDepth 100000
set_option maxHeartbeats 4000000
structure Za where
 Kind:Int
 Words:(List Int)
 Kids:(List Za)
noncomputable def Yy (Y8:(Za→Int→Int→Option Int)) (a0:Za) (a1:Int) (s0_:(Int×Int)):Option ((Int×Int) ⊕ Int) :=
 cond (cond (decide (s0_.2 < (a0.Kids.length:Int))) (decide (0≤s0_.1)) false) ((Xw a0.Kids s0_.2).bind fun x1=>(Y8 x1 (IntKind.i64.wrap (a1 - 1)) s0_.1).bind fun y2=>some (.inl (y2,(IntKind.i64.wrap (s0_.2+1))))) (some (.inr s0_.1))
noncomputable def Y5 (Y8:(Za→Int→Int→Option Int)) (a0:Za) (a1:Int) (a2:Int):Option Int :=
 cond (cond (a1 == 0) true (decide ((IntKind.i64.wrap ((IntKind.i64.wrap (a2 - 1)) - (a0.Words.length:Int))) < 0))) (some (-1)) ((Zm (Yy Y8 a0 a1) ((IntKind.i64.wrap ((IntKind.i64.wrap (a2 - 1)) - (a0.Words.length:Int))),0)).bind fun (z4:Int)=>some z4)
noncomputable def Zz:Nat→(Za→Int→Int→Option Int)
 | 0=>(fun _ _ _=>none)
 | k+1=>Y5 ((Zz k))
noncomputable def Xm (a0:Za) (a1:Int) (a2:Int):Option Int:=lim fun k=>(Zz k) a0 a1 a2
structure Zv where
 At:Int
 Mask:Int
 Old:Int
 New:Int
mutual
structure Zd where
 Kind:Int
 Old:Za
 New:Za
 Words:(List Zv)
 Kids:(List Zj)
 List_:Int
 Ops:(List Zp)
structure Zj where
 At:Int
 E:Zd
structure Zp where
 Kind:Int
 N:Int
 L:(List Za)
 E:Zd
end
noncomputable def Yo (Yq:(Zd→Int→Int→Option Int)) (a0:Zd) (a1:Int) (s0_:(Int×Int)):Option ((Int×Int) ⊕ Int) :=
 cond (cond (decide (s0_.2 < (a0.Kids.length:Int))) (decide (0≤s0_.1)) false) ((Xw a0.Kids s0_.2).bind fun x6=>(Yq x6.E (IntKind.i64.wrap (a1 - 1)) s0_.1).bind fun y8=>some (.inl (y8,(IntKind.i64.wrap (s0_.2+1))))) (some (.inr s0_.1))
noncomputable def Y6 (a0:Zd) (s1_:(Int×Int)) (s2_:(Int×Int)):Option ((Int×Int) ⊕ Int) :=
 (Xw a0.Ops s1_.2).bind fun x14=>cond (cond (decide (s2_.2 < (x14.L.length:Int))) (decide (0≤s2_.1)) false) ((Xw a0.Ops s1_.2).bind fun x16=>(Xw x16.L s2_.2).bind fun x18=>(Xm x18 80 s2_.1).bind fun y19=>some (.inl (y19,(IntKind.i64.wrap (s2_.2+1))))) (some (.inr s2_.1))
noncomputable def Yp (Yq:(Zd→Int→Int→Option Int)) (a0:Zd) (a1:Int) (s1_:(Int×Int)):Option ((Int×Int) ⊕ Int) :=
 cond (cond (decide (s1_.2 < (a0.Ops.length:Int))) (decide (0≤s1_.1)) false) (((Zm (Y6 a0 s1_) (s1_.1,0)).bind fun (z21:Int)=>cond (decide (0≤z21)) ((Xw a0.Ops s1_.2).bind fun x22=>(Yq x22.E (IntKind.i64.wrap (a1 - 1)) z21).bind fun y24=>some y24) (some z21)).bind fun (z11:Int)=>some (.inl (z11,(IntKind.i64.wrap (s1_.2+1))))) (some (.inr s1_.1))
noncomputable def Y1 (Yq:(Zd→Int→Int→Option Int)) (a0:Zd) (a1:Int) (a2:Int):Option Int :=
 cond (cond (a1 == 0) true (decide ((IntKind.i64.wrap ((IntKind.i64.wrap ((IntKind.i64.wrap (a2 - 1)) - (a0.Words.length:Int))) - (a0.Ops.length:Int))) < 0))) (some (-1)) ((Xm a0.Old 80 (IntKind.i64.wrap ((IntKind.i64.wrap ((IntKind.i64.wrap (a2 - 1)) - (a0.Words.length:Int))) - (a0.Ops.length:Int)))).bind fun y2=>(cond (decide (0≤y2)) ((Xm a0.New 80 y2).bind fun y4=>some y4) (some y2)).bind fun (z3:Int)=>(Zm (Yo Yq a0 a1) (z3,0)).bind fun (z10:Int)=>(Zm (Yp Yq a0 a1) (z10,0)).bind fun (z27:Int)=>some z27)
noncomputable def Zu:Nat→(Zd→Int→Int→Option Int)
 | 0=>(fun _ _ _=>none)
 | k+1=>Y1 ((Zu k))
noncomputable def Vb (a0:Zd) (a1:Int) (a2:Int):Option Int:=lim fun k=>(Zu k) a0 a1 a2
noncomputable def Qt (a0:Zd):Option Bool :=
 (Vb a0 80 3000).bind fun y2=>some (decide (0≤y2))
noncomputable def Xt (a0:Za):Option Bool :=
 some (cond (a0.Kind == 0) ((IntKind.i64.wrap ((a0.Words.length:Int)+(a0.Kids.length:Int))) == 0) false)
noncomputable def X4 (a0:Int):Option Int :=
 cond (a0 == 0) (some 0) (cond (a0 == 1) (some 1) (cond (a0 == 2) (some 8) (cond (a0 == 3) (some 16) (cond (a0 == 4) (some 32) (cond (a0 == 5) (some 64) (some (-1)))))))
noncomputable def Y7 (y2:Int) (s0_:(Int×Int)):Option ((Int×Int) ⊕ Int) :=
 cond (decide (s0_.2 < y2)) (some (.inl ((IntKind.u64.wrap (Int.tdiv s0_.1 2)),(IntKind.i64.wrap (s0_.2+1))))) (some (.inr s0_.1))
noncomputable def Q8 (a0:Int) (a1:Int):Option Bool :=
 (X4 a0).bind fun y2=>cond (decide (y2 < 0)) (some false) ((Zm (Y7 y2) (a1,0)).bind fun (z4:Int)=>some (z4 == 0))
noncomputable def Qj (Xn:(Za→Int→Option Bool)) (a0:Za) (a1:Int) (s0_:Int):Option (Int ⊕ (Unit ⊕ Unit)) :=
 cond (decide (s0_ < (a0.Kids.length:Int))) ((Xw a0.Kids s0_).bind fun x2=>(Xn x2 (IntKind.i64.wrap (a1 - 1))).bind fun y4=>cond (!y4) (some (.inr (.inl ()))) ((cond ((cond (decide (2≤a0.Kind)) (decide (a0.Kind≤7)) false) != (x2.Kind == 10)) (some true) (cond (a0.Kind == 9) (cond (x2.Kind != 1) (some true) (cond (decide (2≤a0.Kind)) (cond (decide (a0.Kind≤7)) ((Xw x2.Words 0).bind fun x14=>(Q8 (IntKind.i64.wrap (a0.Kind - 2)) x14).bind fun y15=>some (cond (cond ((cond (decide (2≤a0.Kind)) (decide (a0.Kind≤7)) false) != (x2.Kind == 10)) true (cond (a0.Kind == 9) (x2.Kind != 1) false)) true (cond (cond (decide (2≤a0.Kind)) (decide (a0.Kind≤7)) false) (!y15) false))) (some (cond (cond ((cond (decide (2≤a0.Kind)) (decide (a0.Kind≤7)) false) != (x2.Kind == 10)) true (cond (a0.Kind == 9) (x2.Kind != 1) false)) true false))) (some (cond (cond ((cond (decide (2≤a0.Kind)) (decide (a0.Kind≤7)) false) != (x2.Kind == 10)) true (cond (a0.Kind == 9) (x2.Kind != 1) false)) true false)))) (cond (decide (2≤a0.Kind)) (cond (decide (a0.Kind≤7)) ((Xw x2.Words 0).bind fun x16=>(Q8 (IntKind.i64.wrap (a0.Kind - 2)) x16).bind fun y17=>some (cond (cond ((cond (decide (2≤a0.Kind)) (decide (a0.Kind≤7)) false) != (x2.Kind == 10)) true (cond (a0.Kind == 9) (x2.Kind != 1) false)) true (cond (cond (decide (2≤a0.Kind)) (decide (a0.Kind≤7)) false) (!y17) false))) (some (cond (cond ((cond (decide (2≤a0.Kind)) (decide (a0.Kind≤7)) false) != (x2.Kind == 10)) true (cond (a0.Kind == 9) (x2.Kind != 1) false)) true false))) (some (cond (cond ((cond (decide (2≤a0.Kind)) (decide (a0.Kind≤7)) false) != (x2.Kind == 10)) true (cond (a0.Kind == 9) (x2.Kind != 1) false)) true false))))).bind fun (z9:Bool)=>cond z9 (some (.inr (.inl ()))) (some (.inl (IntKind.i64.wrap (s0_+1)))))) (some (.inr (.inr ())))
noncomputable def Jl (Xn:(Za→Int→Option Bool)) (a0:Za) (a1:Int):Option Bool :=
 cond (a0.Kind == 0) (some (cond ((a0.Words.length:Int) == 0) ((a0.Kids.length:Int) == 0) false)) (cond (a0.Kind == 10) (some (cond ((a0.Words.length:Int) == 1) ((a0.Kids.length:Int) == 0) false)) (cond (cond (cond (cond (cond (cond (decide (a0.Kind < 0)) true (decide (10 < a0.Kind))) true (a1 == 0)) true (decide (65536≤(a0.Words.length:Int)))) true (cond (a0.Kind == 1) (decide (65536≤(a0.Kids.length:Int))) false)) true (decide (1048576≤(a0.Kids.length:Int)))) (some false) (cond (cond (decide (1 < a0.Kind)) (decide (0 < (a0.Words.length:Int))) false) (some false) ((Zm (Qj Xn a0 a1) 0).bind fun (z28:(Unit ⊕ Unit))=>match z28 with | .inl z28=>some false | .inr z28=>some true))))
noncomputable def Xq:Nat→(Za→Int→Option Bool)
 | 0=>(fun _ _=>none)
 | k+1=>Jl ((Xq k))
noncomputable def Qs (a0:Za) (a1:Int):Option Bool:=lim fun k=>(Xq k) a0 a1
noncomputable def Qn (s0_:(Int×Int×(Arr Int 8))):Option ((Int×Int×(Arr Int 8)) ⊕ (Arr Int 8)) :=
 cond (decide (s0_.2.1 < 8)) ((Xw s0_.2.2.1 s0_.2.1).bind fun x15=>some (.inl ((IntKind.u64.wrap (Int.tdiv s0_.1 256)),(IntKind.i64.wrap (s0_.2.1+1)),(Arr.put s0_.2.2 s0_.2.1 (IntKind.u8.wrap (Int.tmod s0_.1 256)))))) (some (.inr s0_.2.2))
noncomputable def Qr (a0:Int):Option (Arr Int 8) :=
 ((some (⟨[0,0,0,0,0,0,0,0],rfl⟩:(Arr Int 8)))).bind fun y3=>((some (⟨[0,0,0,0,0,0,0,0],rfl⟩:(Arr Int 8)))).bind fun y9=>(Zm (Qn) (a0,0,y9)).bind fun (z18:(Arr Int 8))=>some z18
noncomputable def Xz (a1:Int) (s0_:(Int×Int)):Option ((Int×Int) ⊕ Int) :=
 cond (decide (s0_.2 < a1)) (some (.inl ((IntKind.u8.wrap (Int.tdiv s0_.1 2)),(IntKind.i64.wrap (s0_.2+1))))) (some (.inr s0_.1))
noncomputable def Jq (a0:Int) (a1:Int):Option Bool :=
 (Zm (Xz a1) (a0,0)).bind fun (z2:Int)=>some ((Int.tmod z2 2) == 1)
noncomputable def Jr (a0:(List Int)) (a1:Int) (s0_:(Int×Int)):Option ((Int×Int) ⊕ Int) :=
 cond (decide (0≤s0_.2)) ((Xw a0 (IntKind.i64.wrap (a1+s0_.2))).bind fun x1=>some (.inl ((IntKind.u64.wrap ((IntKind.u64.wrap (s0_.1 * 256))+(IntKind.u64.wrap x1))),(IntKind.i64.wrap (s0_.2 - 1))))) (some (.inr s0_.1))
noncomputable def V6 (a0:(List Int)) (a1:Int):Option Int :=
 (Zm (Jr a0 a1) (0,7)).bind fun (z3:Int)=>some z3
noncomputable def Je (a2:Int) (y9:(Arr Int 8)) (s0_:(Int×(Arr Int 8))):Option ((Int×(Arr Int 8)) ⊕ (Arr Int 8)) :=
 cond (decide (s0_.1 < 8)) (((Jq a2 s0_.1).bind fun y17=>cond y17 ((Xw y9.1 s0_.1).bind fun x18=>(Xw s0_.2.1 s0_.1).bind fun x19=>some (Arr.put s0_.2 s0_.1 x18)) (some s0_.2)).bind fun (z15:(Arr Int 8))=>some (.inl ((IntKind.i64.wrap (s0_.1+1)),z15))) (some (.inr s0_.2))
noncomputable def Km (a0:Int) (a1:Int) (a2:Int):Option Int :=
 (Qr a0).bind fun y8=>(Qr a1).bind fun y9=>((some (⟨[0,0,0,0,0,0,0,0],rfl⟩:(Arr Int 8)))).bind fun y10=>(Zm (Je a2 y9) (0,y8)).bind fun (z23:(Arr Int 8))=>(V6 z23.1 0).bind fun y29=>some y29
noncomputable def Qf (a0:Int) (a1:Int):Option Bool :=
 (Km a0 0 a1).bind fun y2=>some (y2 == 0)
noncomputable def Q9 (a0:Zd):Option Bool :=
 (cond (a0.Kind == 0) ((Xt a0.Old).bind fun y6=>cond y6 ((Xt a0.New).bind fun y7=>some (cond (cond (cond (cond (a0.Kind == 0) y6 false) y7 false) ((IntKind.i64.wrap ((IntKind.i64.wrap ((a0.Words.length:Int)+(a0.Kids.length:Int)))+(a0.Ops.length:Int))) == 0) false) (a0.List_ == 0) false)) (some false)) (some false)).bind fun (z3:Bool)=>some z3
noncomputable def X7 (a0:Zd) (s0_:(Int×Int×Int)):Option ((Int×Int×Int) ⊕ (Int×Int)) :=
 cond (decide (s0_.2.2 < (a0.Ops.length:Int))) (((Xw a0.Ops s0_.2.2).bind fun x3=>(cond (x3.Kind == 3) (some 1) (some (IntKind.i64.wrap (x3.N+(x3.L.length:Int))))).bind fun (z4:Int)=>(cond (x3.Kind != 2) (some (IntKind.i64.wrap (s0_.1+z4))) (some s0_.1)).bind fun (z6:Int)=>(cond (x3.Kind != 1) (some (IntKind.i64.wrap (s0_.2.1+z4))) (some s0_.2.1)).bind fun (z8:Int)=>(cond (decide (1048576 < z6)) (some 1048576) (some z6)).bind fun (z10:Int)=>cond (decide (1048576 < z8)) (some (z10,1048576)) (some (z10,z8))).bind fun (z1:(Int×Int))=>some (.inl (z1.1,z1.2,(IntKind.i64.wrap (s0_.2.2+1))))) (some (.inr (s0_.1,s0_.2.1)))
noncomputable def X6 (a0:Zd):Option (Int×Int) :=
 (Zm (X7 a0) (0,0,0)).bind fun (z14:(Int×Int))=>some (z14.1,z14.2)
noncomputable def Xx (a0:Zd) (s0_:(Int×Int)):Option ((Int×Int) ⊕ (Unit ⊕ Unit)) :=
 cond (decide (s0_.2 < (a0.Words.length:Int))) ((Xw a0.Words s0_.2).bind fun x19=>(cond (decide (x19.At≤s0_.1)) (some true) (cond (decide (65534 < x19.At)) (some true) (cond (x19.Mask == 0) (some true) ((Qf x19.Old x19.Mask).bind fun y25=>cond y25 ((Qf x19.New x19.Mask).bind fun y26=>some (cond (cond (cond (cond (decide (x19.At≤s0_.1)) true (decide (65534 < x19.At))) true (x19.Mask == 0)) true (!y25)) true (!y26))) (some true))))).bind fun (z22:Bool)=>cond z22 (some (.inr (.inl ()))) (some (.inl (x19.At,(IntKind.i64.wrap (s0_.2+1)))))) (some (.inr (.inr ())))
noncomputable def Xy (Z8:(Zd→Int→Option Bool)) (a0:Zd) (a1:Int) (s1_:(Int×Int)):Option ((Int×Int) ⊕ (Unit ⊕ Unit)) :=
 cond (decide (s1_.2 < (a0.Kids.length:Int))) ((Xw a0.Kids s1_.2).bind fun x35=>(cond (decide (x35.At≤s1_.1)) (some true) (cond (decide (65534 < x35.At)) (some true) (cond (x35.E.Kind == 0) (some true) ((Z8 x35.E (IntKind.i64.wrap (a1 - 1))).bind fun y39=>some (cond (cond (cond (decide (x35.At≤s1_.1)) true (decide (65534 < x35.At))) true (x35.E.Kind == 0)) true (!y39)))))).bind fun (z37:Bool)=>cond z37 (some (.inr (.inl ()))) (some (.inl (x35.At,(IntKind.i64.wrap (s1_.2+1)))))) (some (.inr (.inr ())))
noncomputable def Xe (Yx:(Int→Zp→Int→Option Bool)) (a0:Zd) (a1:Int) (s2_:Int):Option (Int ⊕ (Unit ⊕ Unit)) :=
 cond (decide (s2_ < (a0.Ops.length:Int))) ((Xw a0.Ops s2_).bind fun x48=>(Yx a0.List_ x48 (IntKind.i64.wrap (a1 - 1))).bind fun y49=>cond (!y49) (some (.inr (.inl ()))) (some (.inl (IntKind.i64.wrap (s2_+1))))) (some (.inr (.inr ())))
noncomputable def Jn (Z8:(Zd→Int→Option Bool)) (Yx:(Int→Zp→Int→Option Bool)) (a0:Zd) (a1:Int):Option Bool :=
 cond (cond (cond (a1 == 0) true (decide (a0.Kind < 0))) true (decide (3 < a0.Kind))) (some false) ((cond (a0.Kind != 1) ((Xt a0.Old).bind fun y6=>cond y6 ((Xt a0.New).bind fun y7=>some (cond (cond (cond (a0.Kind != 1) (!(cond y6 y7 false)) false) true (cond (a0.Kind != 2) (decide (0 < (IntKind.i64.wrap ((a0.Words.length:Int)+(a0.Kids.length:Int))))) false)) true (cond (a0.Kind != 3) (cond (a0.List_ != 0) true (decide (0 < (a0.Ops.length:Int)))) false))) (some true)) (some (cond (cond (a0.Kind != 2) (decide (0 < (IntKind.i64.wrap ((a0.Words.length:Int)+(a0.Kids.length:Int))))) false) true (cond (a0.Kind != 3) (cond (a0.List_ != 0) true (decide (0 < (a0.Ops.length:Int)))) false)))).bind fun (z3:Bool)=>cond z3 (some false) (cond (a0.Kind == 1) (((Qs a0.Old 64).bind fun y15=>cond y15 ((Qs a0.New 64).bind fun y16=>some (cond (cond (cond y15 y16 false) (a0.Old.Kind != 10) false) (a0.New.Kind != 10) false)) (some false)).bind fun (z12:Bool)=>some z12) ((Zm (Xx a0) ((-1),0)).bind fun (z33:(Unit ⊕ Unit))=>match z33 with | .inl z33=>some false | .inr z33=>(Zm (Xy Z8 a0 a1) ((-1),0)).bind fun (z45:(Unit ⊕ Unit))=>match z45 with | .inl z45=>some false | .inr z45=>cond (cond (a0.Kind == 3) (cond (decide (a0.List_ < 2)) true (decide (9 < a0.List_))) false) (some false) ((Zm (Xe Yx a0 a1) 0).bind fun (z52:(Unit ⊕ Unit))=>match z52 with | .inl z52=>some false | .inr z52=>(X6 a0).bind fun y54=>some (cond (decide (y54.1 < 1048576)) (decide (y54.2 < 1048576)) false)))))
noncomputable def Jo (a0:Int) (a1:Zp) (s0_:Int):Option (Int ⊕ (Unit ⊕ Unit)) :=
 cond (decide (s0_ < (a1.L.length:Int))) ((Zbd a1.L s0_ (IntKind.i64.wrap (s0_+1))).bind fun l10=>(Qs (⟨a0,[],l10⟩:Za) 64).bind fun y11=>cond (!y11) (some (.inr (.inl ()))) (some (.inl (IntKind.i64.wrap (s0_+1))))) (some (.inr (.inr ())))
noncomputable def Kz (Z8:(Zd→Int→Option Bool)) (Yx:(Int→Zp→Int→Option Bool)) (a0:Int) (a1:Zp) (a2:Int):Option Bool :=
 cond (a1.Kind == 0) ((cond (decide (1≤a1.N)) (cond (decide (a1.N≤1048576)) (cond ((a1.L.length:Int) == 0) ((Q9 a1.E).bind fun y4=>some (cond (cond (cond (decide (1≤a1.N)) (decide (a1.N≤1048576)) false) ((a1.L.length:Int) == 0) false) y4 false)) (some false)) (some false)) (some false)).bind fun (z2:Bool)=>some z2) (cond (cond (cond (a1.N != 0) true (decide (a1.Kind < 0))) true (decide (3 < a1.Kind))) (some false) (cond (decide (a1.Kind < 3)) ((Zm (Jo a0 a1) 0).bind fun (z14:(Unit ⊕ Unit))=>match z14 with | .inl z14=>some false | .inr z14=>(cond (decide (0 < (a1.L.length:Int))) ((Q9 a1.E).bind fun y18=>some (cond (decide (0 < (a1.L.length:Int))) y18 false)) (some false)).bind fun (z16:Bool)=>some z16) ((cond (decide (0 < (a1.L.length:Int))) (some true) (cond (a1.E.Kind == 0) (some true) (cond (decide (a0≤7)) (some true) ((Z8 a1.E a2).bind fun y23=>some (cond (cond (cond (decide (0 < (a1.L.length:Int))) true (a1.E.Kind == 0)) true (decide (a0≤7))) true (!y23)))))).bind fun (z21:Bool)=>cond z21 (some false) (some (cond (cond (a0 == 8) true (a1.E.Kind == 2)) true (cond (cond (a1.E.Kind == 1) (a1.E.Old.Kind == 1) false) (a1.E.New.Kind == 1) false))))))
noncomputable def Zw:Nat→((Zd→Int→Option Bool)×(Int→Zp→Int→Option Bool))
 | 0=>((fun _ _=>none),(fun _ _ _=>none))
 | k+1=>(Jn ((Zw k).1) ((Zw k).2),Kz ((Zw k).1) ((Zw k).2))
noncomputable def Ud (a0:Zd) (a1:Int):Option Bool:=lim fun k=>(Zw k).1 a0 a1
noncomputable def Qk (Yj:(Zd→Option Bool)) (a0:Zd) (s0_:Int):Option (Int ⊕ (Unit ⊕ Unit)) :=
 cond (decide (s0_ < (a0.Kids.length:Int))) ((Xw a0.Kids s0_).bind fun x6=>(Yj x6.E).bind fun y8=>cond (!y8) (some (.inr (.inl ()))) (some (.inl (IntKind.i64.wrap (s0_+1))))) (some (.inr (.inr ())))
noncomputable def Ql (Yj:(Zd→Option Bool)) (a0:Zd) (s1_:Int):Option (Int ⊕ (Unit ⊕ Unit)) :=
 cond (decide (s1_ < (a0.Ops.length:Int))) ((Xw a0.Ops s1_).bind fun x15=>(Yj x15.E).bind fun y17=>cond (!y17) (some (.inr (.inl ()))) (some (.inl (IntKind.i64.wrap (s1_+1))))) (some (.inr (.inr ())))
noncomputable def Jm (Yj:(Zd→Option Bool)) (a0:Zd):Option Bool :=
 (X6 a0).bind fun y2=>cond (cond (decide (2000 < y2.1)) true (decide (2000 < y2.2))) (some false) ((Zm (Qk Yj a0) 0).bind fun (z11:(Unit ⊕ Unit))=>match z11 with | .inl z11=>some false | .inr z11=>(Zm (Ql Yj a0) 0).bind fun (z20:(Unit ⊕ Unit))=>match z20 with | .inl z20=>some false | .inr z20=>some true)
noncomputable def Xr:Nat→(Zd→Option Bool)
 | 0=>(fun _=>none)
 | k+1=>Jm ((Xr k))
noncomputable def Uc (a0:Zd):Option Bool:=lim fun k=>(Xr k) a0
noncomputable def J8 (a0:Zd):Option Bool :=
 ((Qt a0).bind fun y8=>cond y8 ((Ud a0 64).bind fun y9=>cond y9 ((Uc a0).bind fun y10=>some (cond (cond y8 y9 false) y10 false)) (some false)) (some false)).bind fun (z4:Bool)=>some z4
noncomputable def Jf (a0:(List Int)) (s0_:Int):Option (Int ⊕ Int) :=
 (cond (decide (0 < s0_)) ((Xw a0 (IntKind.i64.wrap (s0_ - 1))).bind fun x4=>some (cond (decide (0 < s0_)) (x4 == 0) false)) (some false)).bind fun (z2:Bool)=>cond z2 (some (.inl (IntKind.i64.wrap (s0_ - 1)))) (some (.inr s0_))
noncomputable def Ko (a0:(List Int)):Option (List Int) :=
 (Zm (Jf a0) (a0.length:Int)).bind fun (z7:Int)=>(Zbd a0 0 z7).bind fun l9=>some l9
noncomputable def Jt (a0:(List Za)) (s0_:Int):Option (Int ⊕ Int) :=
 (cond (decide (0 < s0_)) ((Xw a0 (IntKind.i64.wrap (s0_ - 1))).bind fun x6=>some (cond (decide (0 < s0_)) (x6.Kind == 0) false)) (some false)).bind fun (z3:Bool)=>cond z3 (some (.inl (IntKind.i64.wrap (s0_ - 1)))) (some (.inr s0_))
noncomputable def K2 (a0:(List Za)):Option (List Za) :=
 (Zm (Jt a0) (a0.length:Int)).bind fun (z10:Int)=>(Zbd a0 0 z10).bind fun l12=>some l12
noncomputable def Kh (Kr:(Za→Option Za)) (z1:((List Int)×(List Za))) (s0_:(Int×(List Za))):Option ((Int×(List Za)) ⊕ (List Za)) :=
 cond (decide (s0_.1 < (z1.2.length:Int))) ((Xw z1.2 s0_.1).bind fun x9=>(Kr x9).bind fun y10=>(Xw s0_.2 s0_.1).bind fun x11=>some (.inl ((IntKind.i64.wrap (s0_.1+1)),(Zh5 s0_.2 s0_.1 y10)))) (some (.inr s0_.2))
noncomputable def G0 (Kr:(Za→Option Za)) (a0:Za):Option Za :=
 cond (a0.Kind == 0) (some (⟨0,[],[]⟩:Za)) ((cond (a0.Kind == 1) ((Ko a0.Words).bind fun y2=>(K2 a0.Kids).bind fun y3=>some (y2,y3)) (some (a0.Words,a0.Kids))).bind fun (z1:((List Int)×(List Za)))=>(cond (decide (0 < (z1.2.length:Int))) ((Zep 56 (z1.2.length:Int) (⟨(0:Int),[],[]⟩:Za)).bind fun l6=>some l6) (some ([]:List Za))).bind fun (z5:(List Za))=>(Zm (Kh Kr z1) (0,z5)).bind fun (z14:(List Za))=>some (⟨a0.Kind,z1.1,z14⟩:Za))
noncomputable def Jh:Nat→(Za→Option Za)
 | 0=>(fun _=>none)
 | k+1=>G0 ((Jh k))
noncomputable def Zen (a0:Za):Option Za:=lim fun k=>(Jh k) a0
noncomputable def Zcj (a0:Int):Option Bool :=
 some (cond (decide (2≤a0)) (decide (a0≤7)) false)
noncomputable def U3 (a0:Int):Option (Int×Bool) :=
 ((some (⟨[0,1,8,16,32,64],rfl⟩:(Arr Int 6)))).bind fun y6=>((some (⟨[0,0,0,0,0,0],rfl⟩:(Arr Int 6)))).bind fun y8=>cond (cond (decide (a0 < 0)) true (decide (6≤a0))) (some (0,false)) ((Xw y6.1 a0).bind fun x12=>some (x12,true))
noncomputable def Zac (a0:Int) (a1:Int):Option Int :=
 (U3 a0).bind fun y2=>cond (cond (cond (!y2.2) true (decide (a1 < 0))) true (decide (1099511627776 < a1))) (some 0) (some (IntKind.i64.wrap (Int.tdiv (IntKind.i64.wrap ((IntKind.i64.wrap (a1 * y2.1))+63)) 64)))
noncomputable def K1 (a0:Za) (s0_:(Int×Int×Int)):Option ((Int×Int×Int) ⊕ (Int×Int)) :=
 cond (decide (s0_.2.2 < (a0.Kids.length:Int))) ((Xw a0.Kids s0_.2.2).bind fun x2=>some (.inl ((if s0_.1 < (x2.Words.length:Int) then (x2.Words.length:Int) else s0_.1),(if s0_.2.1 < (x2.Kids.length:Int) then (x2.Kids.length:Int) else s0_.2.1),(IntKind.i64.wrap (s0_.2.2+1))))) (some (.inr (s0_.1,s0_.2.1)))
noncomputable def U2 (a0:Za):Option (Int×Int) :=
 (Zm (K1 a0) (0,0,0)).bind fun (z4:(Int×Int))=>some (z4.1,z4.2)
noncomputable def Ki (Xh:((List Za)→Option Int)) (a0:Za) (s0_:(Int×Int)):Option ((Int×Int) ⊕ Int) :=
 cond (decide (s0_.2 < (a0.Kids.length:Int))) ((Xw a0.Kids s0_.2).bind fun x12=>(Xh x12.Kids).bind fun y13=>some (.inl ((IntKind.i64.wrap (s0_.1+y13)),(IntKind.i64.wrap (s0_.2+1))))) (some (.inr s0_.1))
noncomputable def G3 (Qg:(Za→Option Int)) (Xh:((List Za)→Option Int)) (a0:Za):Option Int :=
 cond (a0.Kind == 1) ((Xh a0.Kids).bind fun y2=>some (IntKind.i64.wrap ((IntKind.i64.wrap ((a0.Words.length:Int)+(a0.Kids.length:Int)))+y2))) ((Zcj a0.Kind).bind fun y4=>cond y4 ((Zac (IntKind.i64.wrap (a0.Kind - 2)) (a0.Kids.length:Int)).bind fun y6=>some y6) (cond (a0.Kind == 8) ((Xh a0.Kids).bind fun y8=>some (IntKind.i64.wrap ((a0.Kids.length:Int)+y8))) (cond (a0.Kind == 9) ((U2 a0).bind fun y10=>(Zm (Ki Xh a0) ((IntKind.i64.wrap (1+(IntKind.i64.wrap ((a0.Kids.length:Int) * (IntKind.i64.wrap (y10.1+y10.2)))))),0)).bind fun (z15:Int)=>some z15) (some 0))))
noncomputable def Jx (Qg:(Za→Option Int)) (a0:(List Za)) (s0_:(Int×Int)):Option ((Int×Int) ⊕ Int) :=
 cond (decide (s0_.2 < (a0.length:Int))) ((Xw a0 s0_.2).bind fun x2=>(Qg x2).bind fun y3=>some (.inl ((IntKind.i64.wrap (s0_.1+y3)),(IntKind.i64.wrap (s0_.2+1))))) (some (.inr s0_.1))
noncomputable def Ut (Qg:(Za→Option Int)) (Xh:((List Za)→Option Int)) (a0:(List Za)):Option Int :=
 (Zm (Jx Qg a0) (0,0)).bind fun (z5:Int)=>some z5
noncomputable def Yf:Nat→((Za→Option Int)×((List Za)→Option Int))
 | 0=>((fun _=>none),(fun _=>none))
 | k+1=>(G3 ((Yf k).1) ((Yf k).2),Ut ((Yf k).1) ((Yf k).2))
noncomputable def Zeo (a0:Za):Option Int:=lim fun k=>(Yf k).1 a0
noncomputable def Zab (a0:Za):Option Int :=
 (Zen a0).bind fun y3=>(Zeo y3).bind fun y4=>some y4
structure Zi where
 something:Bool
 size:Int
noncomputable def Qx (a0:Za):Option Zi :=
 (Zab a0).bind fun y2=>some (⟨(a0.Kind != 0),y2⟩:Zi)
noncomputable def Xs (a1:(List Zi)) (s0_:(Int×Int×Int)):Option ((Int×Int×Int) ⊕ (Int×Int)) :=
 cond (decide (s0_.2.2 < (a1.length:Int))) ((Xw a1 s0_.2.2).bind fun x2=>(cond x2.something (some (IntKind.i64.wrap (s0_.2.2+1))) (some s0_.1)).bind fun (z3:Int)=>some (.inl (z3,(IntKind.i64.wrap (s0_.2.1+x2.size)),(IntKind.i64.wrap (s0_.2.2+1))))) (some (.inr (s0_.1,s0_.2.1)))
noncomputable def Y0 (a0:Int) (a1:(List Zi)):Option Zi :=
 (Zm (Xs a1) (0,a0,0)).bind fun (z6:(Int×Int))=>some (⟨true,(IntKind.i64.wrap (z6.2+z6.1))⟩:Zi)
noncomputable def Ue (a0:Int) (a1:Int) (a2:Int) (a3:Int):Option Zi :=
 cond (a0 == 0) (some (⟨false,0⟩:Zi)) (some (⟨true,(IntKind.i64.wrap ((IntKind.i64.wrap (1+(IntKind.i64.wrap (a0 * (IntKind.i64.wrap (a1+a2))))))+a3))⟩:Zi))
noncomputable def J9 (a0:(List Zv)) (s0_:(Int×Int)):Option ((Int×Int) ⊕ Int) :=
 cond (decide (s0_.2 < (a0.length:Int))) (((Xw a0 s0_.2).bind fun x3=>cond (x3.New != 0) (some 3) (cond (x3.Old != 0) (some (if s0_.1 < 2 then 2 else s0_.1)) (some s0_.1))).bind fun (z1:Int)=>some (.inl (z1,(IntKind.i64.wrap (s0_.2+1))))) (some (.inr s0_.1))
noncomputable def Vh (a0:(List Zv)):Option Zi :=
 (Zm (J9 a0) (1,0)).bind fun (z7:Int)=>(Ue (a0.length:Int) z7 0 0).bind fun y9=>some y9
noncomputable def Vy (Ya:(Zd→Option Zi)) (Y2:((List Zj)→Option Zi)) (Xg:(Int→(List Zp)→Option Zi)) (a0:Zd):Option Zi :=
 cond (a0.Kind == 1) ((Qx a0.Old).bind fun y4=>(Qx a0.New).bind fun y5=>(Y0 1 ([y4,y5]:List Zi)).bind fun y6=>some y6) (cond (a0.Kind == 2) ((Vh a0.Words).bind fun y10=>(Y2 a0.Kids).bind fun y11=>(Y0 1 ([y10,y11]:List Zi)).bind fun y12=>some y12) (cond (a0.Kind == 3) ((Xg a0.List_ a0.Ops).bind fun y15=>(Y0 1 ([y15]:List Zi)).bind fun y16=>some y16) (some (⟨false,0⟩:Zi))))
noncomputable def Jk (Ya:(Zd→Option Zi)) (a0:(List Zj)) (s0_:(Int×Int×Int)):Option ((Int×Int×Int) ⊕ (Int×Int)) :=
 cond (decide (s0_.2.2 < (a0.length:Int))) ((Xw a0 s0_.2.2).bind fun x2=>(cond (decide (0 < x2.At)) (some 1) (some s0_.1)).bind fun (z3:Int)=>(Ya x2.E).bind fun y5=>some (.inl (z3,(IntKind.i64.wrap (s0_.2.1+y5.size)),(IntKind.i64.wrap (s0_.2.2+1))))) (some (.inr (s0_.1,s0_.2.1)))
noncomputable def Vz (Ya:(Zd→Option Zi)) (Y2:((List Zj)→Option Zi)) (Xg:(Int→(List Zp)→Option Zi)) (a0:(List Zj)):Option Zi :=
 (Zm (Jk Ya a0) (0,0,0)).bind fun (z7:(Int×Int))=>(Ue (a0.length:Int) z7.1 1 z7.2).bind fun y9=>some y9
noncomputable def Jw (Ya:(Zd→Option Zi)) (a0:Int) (a1:(List Zp)) (s0_:(Int×Int×Int)):Option ((Int×Int×Int) ⊕ (Int×Int)) :=
 cond (decide (s0_.2.2 < (a1.length:Int))) ((Xw a1 s0_.2.2).bind fun x2=>(Ya x2.E).bind fun y4=>(cond (cond (x2.Kind == 1) true (x2.Kind == 2)) ((Qx (⟨a0,[],x2.L⟩:Za)).bind fun y6=>some (y6.something,y6.size)) (some (y4.something,y4.size))).bind fun (z5:(Bool×Int))=>(cond z5.1 (some 1) (some s0_.1)).bind fun (z8:Int)=>some (.inl (z8,(IntKind.i64.wrap (s0_.2.1+z5.2)),(IntKind.i64.wrap (s0_.2.2+1))))) (some (.inr (s0_.1,s0_.2.1)))
noncomputable def Us (Ya:(Zd→Option Zi)) (Y2:((List Zj)→Option Zi)) (Xg:(Int→(List Zp)→Option Zi)) (a0:Int) (a1:(List Zp)):Option Zi :=
 (Zm (Jw Ya a0 a1) (0,0,0)).bind fun (z11:(Int×Int))=>(Ue (a1.length:Int) 1 z11.1 z11.2).bind fun y13=>some y13
noncomputable def Zr:Nat→((Zd→Option Zi)×((List Zj)→Option Zi)×(Int→(List Zp)→Option Zi))
 | 0=>((fun _=>none),(fun _=>none),(fun _ _=>none))
 | k+1=>(Vy ((Zr k).1) ((Zr k).2.1) ((Zr k).2.2),Vz ((Zr k).1) ((Zr k).2.1) ((Zr k).2.2),Us ((Zr k).1) ((Zr k).2.1) ((Zr k).2.2))
noncomputable def Zcv (a0:Zd):Option Zi:=lim fun k=>(Zr k).1 a0
noncomputable def Kv (a0:Zd):Option Int :=
 (Zcv a0).bind fun y2=>some (IntKind.i64.wrap (1+y2.size))
noncomputable def X3 :Option Bool :=
 ((Kv (⟨0,⟨0,[],[]⟩,⟨0,[],[]⟩,[],[],0,[]⟩:Zd)).bind fun y6=>cond (y6 == 1) ((Kv (⟨1,⟨0,[],[]⟩,⟨0,[],[]⟩,[],[],0,[]⟩:Zd)).bind fun y7=>some (cond (y6 == 1) (y7 == 2) false)) (some false)).bind fun (z3:Bool)=>some z3
noncomputable def Qu (a0:(List Za)):Option Za :=
 cond ((a0.length:Int) == 0) (some (⟨0,[],[]⟩:Za)) (some (⟨9,[],a0⟩:Za))
noncomputable def Q2 (a0:Zd) (s0_:(Int×(List Int)×(List Za))):Option ((Int×(List Int)×(List Za)) ⊕ ((List Int)×(List Za))) :=
 cond (decide (s0_.1 < (a0.Words.length:Int))) ((Xw a0.Words s0_.1).bind fun x3=>(Zfi 56 s0_.2.2 ([(⟨1,([(IntKind.u64.wrap ((IntKind.u64.wrap x3.At)+(IntKind.u64.wrap (4294967296 * (IntKind.u64.wrap x3.Mask))))),x3.Old,x3.New]:List Int),[]⟩:Za)]:List Za)).bind fun l4=>some (.inl ((IntKind.i64.wrap (s0_.1+1)),s0_.2.1,l4))) (some (.inr (s0_.2.1,s0_.2.2)))
noncomputable def Q3 (Yr:(Zd→Option Za)) (a0:Zd) (s1_:(Int×(List Za))):Option ((Int×(List Za)) ⊕ (List Za)) :=
 cond (decide (s1_.1 < (a0.Kids.length:Int))) ((Xw a0.Kids s1_.1).bind fun x55=>(Yr x55.E).bind fun y187=>(Zfi 56 s1_.2 ([(⟨1,([(IntKind.u64.wrap x55.At)]:List Int),([y187]:List Za)⟩:Za)]:List Za)).bind fun l235=>some (.inl ((IntKind.i64.wrap (s1_.1+1)),l235))) (some (.inr s1_.2))
noncomputable def Q4 (Yr:(Zd→Option Za)) (a0:Zd) (s2_:(Int×(List Int)×(List Za))):Option ((Int×(List Int)×(List Za)) ⊕ ((List Int)×(List Za))) :=
 cond (decide (s2_.1 < (a0.Ops.length:Int))) ((Xw a0.Ops s2_.1).bind fun x265=>(cond (x265.Kind == 3) ((Yr x265.E).bind fun y267=>some (([(IntKind.u64.wrap (IntKind.i64.wrap (x265.Kind+(IntKind.i64.wrap (256 * x265.N)))))]:List Int),([y267]:List Za))) (cond (decide (0 < x265.Kind)) (some (([(IntKind.u64.wrap (IntKind.i64.wrap (x265.Kind+(IntKind.i64.wrap (256 * x265.N)))))]:List Int),([(⟨a0.List_,[],x265.L⟩:Za)]:List Za))) (some (([(IntKind.u64.wrap (IntKind.i64.wrap (x265.Kind+(IntKind.i64.wrap (256 * x265.N)))))]:List Int),([]:List Za))))).bind fun (z266:((List Int)×(List Za)))=>(Zfi 56 s2_.2.2 ([(⟨1,z266.1,z266.2⟩:Za)]:List Za)).bind fun l270=>some (.inl ((IntKind.i64.wrap (s2_.1+1)),s2_.2.1,l270))) (some (.inr (s2_.2.1,s2_.2.2)))
noncomputable def J4 (Yr:(Zd→Option Za)) (a0:Zd):Option Za :=
 (cond (a0.Kind == 0) (some (.inr ())) (cond (a0.Kind == 1) (some (.inl (([(IntKind.u64.wrap (IntKind.i64.wrap (a0.Kind+(IntKind.i64.wrap (256 * a0.List_)))))]:List Int),([a0.Old,a0.New]:List Za)))) (cond (a0.Kind == 2) ((Zm (Q2 a0) (0,([(IntKind.u64.wrap (IntKind.i64.wrap (a0.Kind+(IntKind.i64.wrap (256 * a0.List_)))))]:List Int),([]:List Za))).bind fun (z6:((List Int)×(List Za)))=>(Zm (Q3 Yr a0) (0,([]:List Za))).bind fun (z260:(List Za))=>(Qu z6.2).bind fun y262=>(Qu z260).bind fun y263=>some (.inl (z6.1,([y262,y263]:List Za)))) ((Zm (Q4 Yr a0) (0,([(IntKind.u64.wrap (IntKind.i64.wrap (a0.Kind+(IntKind.i64.wrap (256 * a0.List_)))))]:List Int),([]:List Za))).bind fun (z272:((List Int)×(List Za)))=>(Qu z272.2).bind fun y273=>some (.inl (z272.1,([y273]:List Za))))))).bind fun (z1:(((List Int)×(List Za)) ⊕ Unit))=>match z1 with | .inl z1=>some (⟨1,z1.1,z1.2⟩:Za) | .inr z1=>some (⟨0,[],[]⟩:Za)
noncomputable def X2:Nat→(Zd→Option Za)
 | 0=>(fun _=>none)
 | k+1=>J4 ((X2 k))
noncomputable def U1 (a0:Zd):Option Za:=lim fun k=>(X2 k) a0
noncomputable def Q6 (a0:(List Int)) (s0_:Int):Option (Int ⊕ Int) :=
 (cond (decide (0 < s0_)) ((Xw a0 (IntKind.i64.wrap (s0_ - 1))).bind fun x4=>some (cond (decide (0 < s0_)) (x4 == 0) false)) (some false)).bind fun (z2:Bool)=>cond z2 (some (.inl (IntKind.i64.wrap (s0_ - 1)))) (some (.inr s0_))
noncomputable def J7 (a0:(List Int)):Option (List Int) :=
 (Zm (Q6 a0) (a0.length:Int)).bind fun (z7:Int)=>(Zbd a0 0 z7).bind fun l10=>(Zfi 8 ([]:List Int) l10).bind fun l11=>some l11
noncomputable def Xi (Xu:(Za→Option Za)) (a0:Za) (s0_:(Int×Int×(List Za))):Option ((Int×Int×(List Za)) ⊕ (Int×(List Za))) :=
 cond (decide (s0_.2.1 < (a0.Kids.length:Int))) (((Xw a0.Kids s0_.2.1).bind fun x4=>(Xu x4).bind fun y5=>(Zfi 56 s0_.2.2 ([y5]:List Za)).bind fun l7=>cond (y5.Kind != 0) (some ((IntKind.i64.wrap (s0_.2.1+1)),l7)) (some (s0_.1,l7))).bind fun (z1:(Int×(List Za)))=>some (.inl (z1.1,(IntKind.i64.wrap (s0_.2.1+1)),z1.2))) (some (.inr (s0_.1,s0_.2.2)))
noncomputable def J0 (Xu:(Za→Option Za)) (a0:Za):Option Za :=
 cond (a0.Kind == 0) (some (⟨0,[],[]⟩:Za)) ((Zm (Xi Xu a0) (0,0,([]:List Za))).bind fun (z10:(Int×(List Za)))=>cond (a0.Kind == 1) ((J7 a0.Words).bind fun y14=>(Zbd z10.2 0 z10.1).bind fun l15=>some (⟨1,y14,l15⟩:Za)) ((Zfi 8 ([]:List Int) a0.Words).bind fun l17=>some (⟨a0.Kind,l17,z10.2⟩:Za)))
noncomputable def Yu:Nat→(Za→Option Za)
 | 0=>(fun _=>none)
 | k+1=>J0 ((Yu k))
noncomputable def Uz (a0:Za):Option Za:=lim fun k=>(Yu k) a0
noncomputable def J6 (a0:Int) (a1:Int):Option Int :=
 (X4 a0).bind fun y2=>cond (cond (cond (decide (y2 < 1)) true (decide (a1 < 0))) true (decide (1099511627776 < a1))) (some 0) ((X4 a0).bind fun y5=>(Gt (y5≠0)).bind fun u6=>(Gt ((IntKind.i64.wrap (Int.tdiv 64 y5))≠0)).bind fun u8=>cond (decide (0 < (Int.tmod a1 (IntKind.i64.wrap (Int.tdiv 64 y5))))) ((Gt ((IntKind.i64.wrap (Int.tdiv 64 y5))≠0)).bind fun u10=>some (IntKind.i64.wrap ((IntKind.i64.wrap (Int.tdiv a1 (IntKind.i64.wrap (Int.tdiv 64 y5))))+1))) ((Gt ((IntKind.i64.wrap (Int.tdiv 64 y5))≠0)).bind fun u12=>some (IntKind.i64.wrap (Int.tdiv a1 (IntKind.i64.wrap (Int.tdiv 64 y5))))))
noncomputable def Qo (a0:Za) (s0_:(Int×Int×Int)):Option ((Int×Int×Int) ⊕ (Int×Int)) :=
 cond (decide (s0_.2.2 < (a0.Kids.length:Int))) ((((Xw a0.Kids s0_.2.2).bind fun x5=>cond (decide (s0_.1 < (x5.Words.length:Int))) ((Xw a0.Kids s0_.2.2).bind fun x7=>some (x7.Words.length:Int)) (some s0_.1)).bind fun (z2:Int)=>(Xw a0.Kids s0_.2.2).bind fun x12=>cond (decide (s0_.2.1 < (x12.Kids.length:Int))) ((Xw a0.Kids s0_.2.2).bind fun x14=>some (z2,(x14.Kids.length:Int))) (some (z2,s0_.2.1))).bind fun (z1:(Int×Int))=>some (.inl (z1.1,z1.2,(IntKind.i64.wrap (s0_.2.2+1))))) (some (.inr (s0_.1,s0_.2.1)))
noncomputable def Js (a0:Za):Option (Int×Int) :=
 (Zm (Qo a0) (0,0,0)).bind fun (z18:(Int×Int))=>some (z18.1,z18.2)
noncomputable def Q1 (Yc:(Za→Option Int)) (a0:Za) (s0_:(Int×Int)) (s1_:(Int×Int)):Option ((Int×Int) ⊕ Int) :=
 (Xw a0.Kids s0_.2).bind fun x14=>cond (decide (s1_.2 < (x14.Kids.length:Int))) ((Xw a0.Kids s0_.2).bind fun x16=>(Xw x16.Kids s1_.2).bind fun x18=>(Yc x18).bind fun y19=>some (.inl ((IntKind.i64.wrap (s1_.1+y19)),(IntKind.i64.wrap (s1_.2+1))))) (some (.inr s1_.1))
noncomputable def Q0 (Yc:(Za→Option Int)) (a0:Za) (s0_:(Int×Int)):Option ((Int×Int) ⊕ Int) :=
 cond (decide (s0_.2 < (a0.Kids.length:Int))) ((Zm (Q1 Yc a0 s0_) (s0_.1,0)).bind fun (z21:Int)=>some (.inl (z21,(IntKind.i64.wrap (s0_.2+1))))) (some (.inr s0_.1))
noncomputable def X5 (Yc:(Za→Option Int)) (a0:Za) (s2_:(Int×Int)):Option ((Int×Int) ⊕ Int) :=
 cond (decide (s2_.2 < (a0.Kids.length:Int))) ((Xw a0.Kids s2_.2).bind fun x28=>(Yc x28).bind fun y29=>some (.inl ((IntKind.i64.wrap (s2_.1+y29)),(IntKind.i64.wrap (s2_.2+1))))) (some (.inr s2_.1))
noncomputable def J3 (Yc:(Za→Option Int)) (a0:Za):Option Int :=
 (cond (a0.Kind == 1) (some (.inl (IntKind.i64.wrap ((a0.Words.length:Int)+(a0.Kids.length:Int))))) (cond (a0.Kind == 8) (some (.inl (a0.Kids.length:Int))) ((cond (a0.Kind == 2) (some (a0.Kind == 2)) (cond (a0.Kind == 3) (some (a0.Kind == 3)) (cond (a0.Kind == 4) (some (a0.Kind == 4)) (cond (a0.Kind == 5) (some (a0.Kind == 5)) (cond (a0.Kind == 6) (some (a0.Kind == 6)) (some (a0.Kind == 7))))))).bind fun (z2:Bool)=>cond z2 ((J6 (IntKind.i64.wrap (a0.Kind - 2)) (a0.Kids.length:Int)).bind fun y9=>some (.inr y9)) (cond (a0.Kind == 9) ((Js a0).bind fun y11=>(Zm (Q0 Yc a0) ((IntKind.i64.wrap (1+(IntKind.i64.wrap ((a0.Kids.length:Int) * (IntKind.i64.wrap (y11.1+y11.2)))))),0)).bind fun (z23:Int)=>some (.inr z23)) (some (.inl 0)))))).bind fun (z1:(Int ⊕ Int))=>match z1 with | .inl z1=>(Zm (X5 Yc a0) (z1,0)).bind fun (z31:Int)=>some z31 | .inr z1=>some z1
noncomputable def Yi:Nat→(Za→Option Int)
 | 0=>(fun _=>none)
 | k+1=>J3 ((Yi k))
noncomputable def U0 (a0:Za):Option Int:=lim fun k=>(Yi k) a0
noncomputable def Ji (a0:Zd):Option Bool :=
 (J8 a0).bind fun y2=>cond (!y2) ((X3).bind fun y4=>some y4) ((U1 a0).bind fun y6=>(Qs y6 64).bind fun y8=>cond (!y8) ((X3).bind fun y10=>some y10) (((Kv a0).bind fun y20=>(Uz y6).bind fun y21=>(U0 y21).bind fun y22=>cond (y20 == (IntKind.i64.wrap (y22+1))) ((X3).bind fun y23=>some (cond (y20 == (IntKind.i64.wrap (y22+1))) y23 false)) (some false)).bind fun (z15:Bool)=>some z15))
mutual
def Kb:Za→List G
 | ⟨f0,f1,f2⟩=>[.val (.int .i64 f0),.sl f1.length (fl (eI .u64) f1),.sl f2.length (Kc f2)]
def Kc:List Za→List G
 | []=>[]
 | x::xs=>Kb x++Kc xs
end
theorem Zc2:∀ xs,Kc xs=fl Kb xs
 | []=>by simp [Kc,fl]
 | x::xs=>by rw [Kc,Kg,Zc2 xs]
def Zb (x:Za):List G:=[.val (.int .i64 x.Kind),.sl x.Words.length (fl (eI .u64) x.Words),.sl x.Kids.length (fl Kb x.Kids)]
theorem Z7:Kb=Zb:=by
 funext x
 obtain ⟨_,_,_⟩:=x
 simp only [Kb,Zc2,Zb,List.cons_append,List.nil_append,List.append_nil]
mutual
theorem Zb2:∀ x,G.pures (Kb x)=true
 | ⟨f0,f1,f2⟩=>by simp [Kb,eP,Jv,eI,eB,eS,eL,G.pures,G.pure,K5,Z0,Zd4 f2]
theorem Zd4:∀ xs,G.pures (Kc xs)=true
 | []=>rfl
 | x::xs=>by simp [Kc,K5,Zb2 x,Zd4 xs]
end
theorem Zb3:∀ x,G.pures (Zb x)=true:=fun x=>by rw [← Z7];exact Zb2 x
theorem Ja:∀ x,G.pures ((eI .u64) x)=true:=fun x=>by simp [eI,eB,eS,eL,eP,G.pures,G.pure,Z0,Jv,Z7]
theorem Zli {O O':Objs} {n:Nat} (xs:List Int):Vd O O' n (fl (eI .u64) xs) (fl (eI .u64) xs):=Zar (Z0 Ja xs)
theorem Zlf {O O':Objs} {n:Nat} (xs:List Int) (b b':List G):Vd O O' n (fl (eI .u64) xs++b) (fl (eI .u64) xs++b')=Vd O O' n b b':=Gd b b' _ (Z0 Ja xs)
theorem Zj6 (xs:List Int):(fl (eI .u64) xs).length=xs.length * 1:=Qq (f:=(eI .u64)) (k:=1) (fun _=>rfl) xs
theorem Zkl (xs:List Int):(fl (eI .u64) xs).all G.one=true:=Ku (fun x=>by simp [eI,eB,eS,eL,eP,Zcw,G.one,Value.oneCell']) xs
theorem Zlk {O O':Objs} {n:Nat} (x:Option Int):wk O O' n (gP (eI .u64) x) (gP (eI .u64) x)=True:=Ziw Ja x
theorem Ziv {k:Nat} (x:Option Int):(gP (eI .u64) x).under k=true:=Gc Ja k x
theorem Zio {ρ:Nat→Nat} (xs:List Int):G.rens ρ (fl (eI .u64) xs)=fl (eI .u64) xs:=Jb ρ _ (Z0 Ja xs)
theorem Zim {ρ:Nat→Nat} (x:Option Int):(gP (eI .u64) x).ren ρ=gP (eI .u64) x:=V3 ρ _ (Jv Ja x)
theorem Zk8 {k:Nat} (xs:List Int):G.unders k (fl (eI .u64) xs)=true:=Y9 _ _ (Z0 Ja xs)
theorem Yh:∀ x,G.pures (Zb x)=true:=fun x=>by rw [← Z7];exact Zb2 x
theorem Zdm {O O':Objs} {n:Nat} (xs:List Za):Vd O O' n (fl Zb xs) (fl Zb xs):=Zar (Z0 Yh xs)
theorem Zdl {O O':Objs} {n:Nat} (xs:List Za) (b b':List G):Vd O O' n (fl Zb xs++b) (fl Zb xs++b')=Vd O O' n b b':=Gd b b' _ (Z0 Yh xs)
theorem Zc5 (xs:List Za):(fl Zb xs).length=xs.length * 3:=Qq (f:=Zb) (k:=3) (fun _=>rfl) xs
theorem Zdc (xs:List Za):(fl Zb xs).all G.one=true:=Ku (fun x=>by simp [eI,eB,eS,eL,eP,Zcw,G.one,Value.oneCell',Zb]) xs
theorem Zdn {O O':Objs} {n:Nat} (x:Option Za):wk O O' n (gP Zb x) (gP Zb x)=True:=Ziw Yh x
theorem Zcq {k:Nat} (x:Option Za):(gP Zb x).under k=true:=Gc Yh k x
theorem Zcn {ρ:Nat→Nat} (xs:List Za):G.rens ρ (fl Zb xs)=fl Zb xs:=Jb ρ _ (Z0 Yh xs)
theorem Zcm {ρ:Nat→Nat} (x:Option Za):(gP Zb x).ren ρ=gP Zb x:=V3 ρ _ (Jv Yh x)
theorem Zdk {k:Nat} (xs:List Za):G.unders k (fl Zb xs)=true:=Y9 _ _ (Z0 Yh xs)
def Zf (x:Zv):List G:=[.val (.int .i64 x.At),.val (.int .u8 x.Mask),.val (.int .u64 x.Old),.val (.int .u64 x.New)]
mutual
def Qa:Zd→List G
 | ⟨f0,f1,f2,f3,f4,f5,f6⟩=>[.val (.int .i64 f0),.val (.int .i64 f1.Kind),.sl f1.Words.length (fl (eI .u64) f1.Words),.sl f1.Kids.length (fl Zb f1.Kids),.val (.int .i64 f2.Kind),.sl f2.Words.length (fl (eI .u64) f2.Words),.sl f2.Kids.length (fl Zb f2.Kids),.sl f3.length (fl Zf f3),.sl f4.length (Qp f4),.val (.int .i64 f5),.sl f6.length (Vf f6)]
def K4:List Zd→List G
 | []=>[]
 | x::xs=>Qa x++K4 xs
def Yz:Zj→List G
 | ⟨f0,f1⟩=>[.val (.int .i64 f0)]++Qa f1
def Qp:List Zj→List G
 | []=>[]
 | x::xs=>Yz x++Qp xs
def Q5:Zp→List G
 | ⟨f0,f1,f2,f3⟩=>[.val (.int .i64 f0),.val (.int .i64 f1),.sl f2.length (fl Zb f2)]++Qa f3
def Vf:List Zp→List G
 | []=>[]
 | x::xs=>Q5 x++Vf xs
end
theorem Vo:∀ xs,K4 xs=fl Qa xs
 | []=>by simp [K4,fl]
 | x::xs=>by rw [K4,Kg,Vo xs]
theorem Kf:∀ xs,Qp xs=fl Yz xs
 | []=>by simp [Qp,fl]
 | x::xs=>by rw [Qp,Kg,Kf xs]
theorem Uv:∀ xs,Vf xs=fl Q5 xs
 | []=>by simp [Vf,fl]
 | x::xs=>by rw [Vf,Kg,Uv xs]
def Xp (x:Zd):List G:=[.val (.int .i64 x.Kind),.val (.int .i64 x.Old.Kind),.sl x.Old.Words.length (fl (eI .u64) x.Old.Words),.sl x.Old.Kids.length (fl Zb x.Old.Kids),.val (.int .i64 x.New.Kind),.sl x.New.Words.length (fl (eI .u64) x.New.Words),.sl x.New.Kids.length (fl Zb x.New.Kids),.sl x.Words.length (fl Zf x.Words),.sl x.Kids.length (fl Yz x.Kids),.val (.int .i64 x.List_),.sl x.Ops.length (fl Q5 x.Ops)]
def Zh (x:Zj):List G:=[.val (.int .i64 x.At),.val (.int .i64 x.E.Kind),.val (.int .i64 x.E.Old.Kind),.sl x.E.Old.Words.length (fl (eI .u64) x.E.Old.Words),.sl x.E.Old.Kids.length (fl Zb x.E.Old.Kids),.val (.int .i64 x.E.New.Kind),.sl x.E.New.Words.length (fl (eI .u64) x.E.New.Words),.sl x.E.New.Kids.length (fl Zb x.E.New.Kids),.sl x.E.Words.length (fl Zf x.E.Words),.sl x.E.Kids.length (fl Yz x.E.Kids),.val (.int .i64 x.E.List_),.sl x.E.Ops.length (fl Q5 x.E.Ops)]
def Zk (x:Zp):List G:=[.val (.int .i64 x.Kind),.val (.int .i64 x.N),.sl x.L.length (fl Zb x.L),.val (.int .i64 x.E.Kind),.val (.int .i64 x.E.Old.Kind),.sl x.E.Old.Words.length (fl (eI .u64) x.E.Old.Words),.sl x.E.Old.Kids.length (fl Zb x.E.Old.Kids),.val (.int .i64 x.E.New.Kind),.sl x.E.New.Words.length (fl (eI .u64) x.E.New.Words),.sl x.E.New.Kids.length (fl Zb x.E.New.Kids),.sl x.E.Words.length (fl Zf x.E.Words),.sl x.E.Kids.length (fl Yz x.E.Kids),.val (.int .i64 x.E.List_),.sl x.E.Ops.length (fl Q5 x.E.Ops)]
theorem Xa:Qa=Xp:=by
 funext x
 obtain ⟨_,_,_,_,_,_,_⟩:=x
 simp only [Qa,Vo,Yz,Kf,Q5,Uv,Xp,List.cons_append,List.nil_append,List.append_nil]
theorem Ye:Yz=Zh:=by
 funext x
 obtain ⟨_,⟨_,_,_,_,_,_,_⟩⟩:=x
 simp only [Qa,Vo,Yz,Kf,Q5,Uv,Zh,List.cons_append,List.nil_append,List.append_nil]
theorem Xj:Q5=Zk:=by
 funext x
 obtain ⟨_,_,_,⟨_,_,_,_,_,_,_⟩⟩:=x
 simp only [Qa,Vo,Yz,Kf,Q5,Uv,Zk,List.cons_append,List.nil_append,List.append_nil]
mutual
theorem Zb1:∀ x,G.pures (Qa x)=true
 | ⟨f0,f1,f2,f3,f4,f5,f6⟩=>by simp [Qa,eP,Jv,eI,eB,eS,eL,G.pures,G.pure,K5,Z0,Zb4 f4,Zft f6,Ja,Yh,Zb3,Zf]
theorem Zi3:∀ xs,G.pures (K4 xs)=true
 | []=>rfl
 | x::xs=>by simp [K4,K5,Zb1 x,Zi3 xs]
theorem Zcl:∀ x,G.pures (Yz x)=true
 | ⟨f0,f1⟩=>by simp [Yz,eP,Jv,eI,eB,eS,eL,G.pures,G.pure,K5,Z0,Zb1 f1,Ja,Yh,Zb3,Zf]
theorem Zb4:∀ xs,G.pures (Qp xs)=true
 | []=>rfl
 | x::xs=>by simp [Qp,K5,Zcl x,Zb4 xs]
theorem Zg5:∀ x,G.pures (Q5 x)=true
 | ⟨f0,f1,f2,f3⟩=>by simp [Q5,eP,Jv,eI,eB,eS,eL,G.pures,G.pure,K5,Z0,Zb1 f3,Ja,Yh,Zb3,Zf]
theorem Zft:∀ xs,G.pures (Vf xs)=true
 | []=>rfl
 | x::xs=>by simp [Vf,K5,Zg5 x,Zft xs]
end
theorem Yl:∀ x,G.pures (Zf x)=true:=fun x=>by simp [eI,eB,eS,eL,eP,G.pures,G.pure,Z0,Jv,Zf,Ja,Yh,Z7,Xa,Ye,Xj]
theorem Zaq {O O':Objs} {n:Nat} (xs:List Zv):Vd O O' n (fl Zf xs) (fl Zf xs):=Zar (Z0 Yl xs)
theorem Zap {O O':Objs} {n:Nat} (xs:List Zv) (b b':List G):Vd O O' n (fl Zf xs++b) (fl Zf xs++b')=Vd O O' n b b':=Gd b b' _ (Z0 Yl xs)
theorem G8 (xs:List Zv):(fl Zf xs).length=xs.length * 4:=Qq (f:=Zf) (k:=4) (fun _=>rfl) xs
theorem Zaj (xs:List Zv):(fl Zf xs).all G.one=true:=Ku (fun x=>by simp [eI,eB,eS,eL,eP,Zcw,G.one,Value.oneCell',Zf]) xs
theorem Zas {O O':Objs} {n:Nat} (x:Option Zv):wk O O' n (gP Zf x) (gP Zf x)=True:=Ziw Yl x
theorem Gm {k:Nat} (x:Option Zv):(gP Zf x).under k=true:=Gc Yl k x
theorem Gl {ρ:Nat→Nat} (xs:List Zv):G.rens ρ (fl Zf xs)=fl Zf xs:=Jb ρ _ (Z0 Yl xs)
theorem Gk {ρ:Nat→Nat} (x:Option Zv):(gP Zf x).ren ρ=gP Zf x:=V3 ρ _ (Jv Yl x)
theorem Zan {k:Nat} (xs:List Zv):G.unders k (fl Zf xs)=true:=Y9 _ _ (Z0 Yl xs)
theorem Yv:∀ x,G.pures (Zh x)=true:=fun x=>by rw [← Ye];exact Zcl x
theorem Za9 {O O':Objs} {n:Nat} (xs:List Zj):Vd O O' n (fl Zh xs) (fl Zh xs):=Zar (Z0 Yv xs)
theorem Za8 {O O':Objs} {n:Nat} (xs:List Zj) (b b':List G):Vd O O' n (fl Zh xs++b) (fl Zh xs++b')=Vd O O' n b b':=Gd b b' _ (Z0 Yv xs)
theorem Za3 (xs:List Zj):(fl Zh xs).length=xs.length * 12:=Qq (f:=Zh) (k:=12) (fun _=>rfl) xs
theorem Za6 (xs:List Zj):(fl Zh xs).all G.one=true:=Ku (fun x=>by simp [eI,eB,eS,eL,eP,Zcw,G.one,Value.oneCell',Zh]) xs
theorem Zba {O O':Objs} {n:Nat} (x:Option Zj):wk O O' n (gP Zh x) (gP Zh x)=True:=Ziw Yv x
theorem Zao {k:Nat} (x:Option Zj):(gP Zh x).under k=true:=Gc Yv k x
theorem Zal {ρ:Nat→Nat} (xs:List Zj):G.rens ρ (fl Zh xs)=fl Zh xs:=Jb ρ _ (Z0 Yv xs)
theorem Zak {ρ:Nat→Nat} (x:Option Zj):(gP Zh x).ren ρ=gP Zh x:=V3 ρ _ (Jv Yv x)
theorem Za7 {k:Nat} (xs:List Zj):G.unders k (fl Zh xs)=true:=Y9 _ _ (Z0 Yv xs)
theorem Qb:∀ x,G.pures (Zk x)=true:=fun x=>by rw [← Xj];exact Zg5 x
theorem Ze6 {O O':Objs} {n:Nat} (xs:List Zp):Vd O O' n (fl Zk xs) (fl Zk xs):=Zar (Z0 Qb xs)
theorem Ze5 {O O':Objs} {n:Nat} (xs:List Zp) (b b':List G):Vd O O' n (fl Zk xs++b) (fl Zk xs++b')=Vd O O' n b b':=Gd b b' _ (Z0 Qb xs)
theorem Zel (xs:List Zp):(fl Zk xs).length=xs.length * 14:=Qq (f:=Zk) (k:=14) (fun _=>rfl) xs
theorem Zex (xs:List Zp):(fl Zk xs).all G.one=true:=Ku (fun x=>by simp [eI,eB,eS,eL,eP,Zcw,G.one,Value.oneCell',Zk]) xs
theorem Ze7 {O O':Objs} {n:Nat} (x:Option Zp):wk O O' n (gP Zk x) (gP Zk x)=True:=Ziw Qb x
theorem Zd9 {k:Nat} (x:Option Zp):(gP Zk x).under k=true:=Gc Qb k x
theorem Zd6 {ρ:Nat→Nat} (xs:List Zp):G.rens ρ (fl Zk xs)=fl Zk xs:=Jb ρ _ (Z0 Qb xs)
theorem Zd5 {ρ:Nat→Nat} (x:Option Zp):(gP Zk x).ren ρ=gP Zk x:=V3 ρ _ (Jv Qb x)
theorem Ze4 {k:Nat} (xs:List Zp):G.unders k (fl Zk xs)=true:=Y9 _ _ (Z0 Qb xs)
theorem U9:∀ x,G.pures ((eI .u8) x)=true:=fun x=>by simp [eI,eB,eS,eL,eP,G.pures,G.pure,Z0,Jv,Ja,Yh,Yl,Yv,Qb,Z7,Xa,Ye,Xj]
theorem Zm5 {O O':Objs} {n:Nat} (xs:List Int):Vd O O' n (fl (eI .u8) xs) (fl (eI .u8) xs):=Zar (Z0 U9 xs)
theorem Zm4 {O O':Objs} {n:Nat} (xs:List Int) (b b':List G):Vd O O' n (fl (eI .u8) xs++b) (fl (eI .u8) xs++b')=Vd O O' n b b':=Gd b b' _ (Z0 U9 xs)
theorem Zmb (xs:List Int):(fl (eI .u8) xs).length=xs.length * 1:=Qq (f:=(eI .u8)) (k:=1) (fun _=>rfl) xs
theorem Zmh (xs:List Int):(fl (eI .u8) xs).all G.one=true:=Ku (fun x=>by simp [eI,eB,eS,eL,eP,Zcw,G.one,Value.oneCell']) xs
theorem Zm6 {O O':Objs} {n:Nat} (x:Option Int):wk O O' n (gP (eI .u8) x) (gP (eI .u8) x)=True:=Ziw U9 x
theorem Zlb {k:Nat} (x:Option Int):(gP (eI .u8) x).under k=true:=Gc U9 k x
theorem Zkv {ρ:Nat→Nat} (xs:List Int):G.rens ρ (fl (eI .u8) xs)=fl (eI .u8) xs:=Jb ρ _ (Z0 U9 xs)
theorem Zkt {ρ:Nat→Nat} (x:Option Int):(gP (eI .u8) x).ren ρ=gP (eI .u8) x:=V3 ρ _ (Jv U9 x)
theorem Zm2 {k:Nat} (xs:List Int):G.unders k (fl (eI .u8) xs)=true:=Y9 _ _ (Z0 U9 xs)
theorem Un:∀ x,G.pures ((eI .i64) x)=true:=fun x=>by simp [eI,eB,eS,eL,eP,G.pures,G.pure,Z0,Jv,Ja,Yh,Yl,Yv,Qb,U9,Z7,Xa,Ye,Xj]
theorem Zlh {O O':Objs} {n:Nat} (xs:List Int):Vd O O' n (fl (eI .i64) xs) (fl (eI .i64) xs):=Zar (Z0 Un xs)
theorem Zle {O O':Objs} {n:Nat} (xs:List Int) (b b':List G):Vd O O' n (fl (eI .i64) xs++b) (fl (eI .i64) xs++b')=Vd O O' n b b':=Gd b b' _ (Z0 Un xs)
theorem Zj5 (xs:List Int):(fl (eI .i64) xs).length=xs.length * 1:=Qq (f:=(eI .i64)) (k:=1) (fun _=>rfl) xs
theorem Zkk (xs:List Int):(fl (eI .i64) xs).all G.one=true:=Ku (fun x=>by simp [eI,eB,eS,eL,eP,Zcw,G.one,Value.oneCell']) xs
theorem Zlj {O O':Objs} {n:Nat} (x:Option Int):wk O O' n (gP (eI .i64) x) (gP (eI .i64) x)=True:=Ziw Un x
theorem Ziu {k:Nat} (x:Option Int):(gP (eI .i64) x).under k=true:=Gc Un k x
theorem Zin {ρ:Nat→Nat} (xs:List Int):G.rens ρ (fl (eI .i64) xs)=fl (eI .i64) xs:=Jb ρ _ (Z0 Un xs)
theorem Zil {ρ:Nat→Nat} (x:Option Int):(gP (eI .i64) x).ren ρ=gP (eI .i64) x:=V3 ρ _ (Jv Un x)
theorem Zk7 {k:Nat} (xs:List Int):G.unders k (fl (eI .i64) xs)=true:=Y9 _ _ (Z0 Un xs)
def Zx (x:Zi):List G:=[.val (.bool x.something),.val (.int .i64 x.size)]
theorem Qw:∀ x,G.pures (Zx x)=true:=fun x=>by simp [eI,eB,eS,eL,eP,G.pures,G.pure,Z0,Jv,Zx,Ja,Yh,Yl,Yv,Qb,U9,Un,Z7,Xa,Ye,Xj]
theorem Zcs {O O':Objs} {n:Nat} (xs:List Zi):Vd O O' n (fl Zx xs) (fl Zx xs):=Zar (Z0 Qw xs)
theorem Zcr {O O':Objs} {n:Nat} (xs:List Zi) (b b':List G):Vd O O' n (fl Zx xs++b) (fl Zx xs++b')=Vd O O' n b b':=Gd b b' _ (Z0 Qw xs)
theorem Zci (xs:List Zi):(fl Zx xs).length=xs.length * 2:=Qq (f:=Zx) (k:=2) (fun _=>rfl) xs
theorem Zck (xs:List Zi):(fl Zx xs).all G.one=true:=Ku (fun x=>by simp [eI,eB,eS,eL,eP,Zcw,G.one,Value.oneCell',Zx]) xs
theorem Zct {O O':Objs} {n:Nat} (x:Option Zi):wk O O' n (gP Zx x) (gP Zx x)=True:=Ziw Qw x
theorem Zcc {k:Nat} (x:Option Zi):(gP Zx x).under k=true:=Gc Qw k x
theorem Zb6 {ρ:Nat→Nat} (xs:List Zi):G.rens ρ (fl Zx xs)=fl Zx xs:=Jb ρ _ (Z0 Qw xs)
theorem Zb5 {ρ:Nat→Nat} (x:Option Zi):(gP Zx x).ren ρ=gP Zx x:=V3 ρ _ (Jv Qw x)
theorem Zcp {k:Nat} (xs:List Zi):G.unders k (fl Zx xs)=true:=Y9 _ _ (Z0 Qw xs)
def Jd (x:Zp):List G:=[.val (.int .i64 x.Kind),.val (.int .i64 x.N),.sl x.L.length (fl Zb x.L),.val (.int .i64 x.E.Kind),.val (.int .i64 x.E.Old.Kind),.sl x.E.Old.Words.length (fl (eI .u64) x.E.Old.Words),.sl x.E.Old.Kids.length (fl Zb x.E.Old.Kids),.val (.int .i64 x.E.New.Kind),.sl x.E.New.Words.length (fl (eI .u64) x.E.New.Words),.sl x.E.New.Kids.length (fl Zb x.E.New.Kids),.sl x.E.Words.length (fl Zf x.E.Words),.sl x.E.Kids.length (fl Zh x.E.Kids),.val (.int .i64 x.E.List_),.sl x.E.Ops.length (fl Zk x.E.Ops)]
def V5 (x:Zj):List G:=[.val (.int .i64 x.At),.val (.int .i64 x.E.Kind),.val (.int .i64 x.E.Old.Kind),.sl x.E.Old.Words.length (fl (eI .u64) x.E.Old.Words),.sl x.E.Old.Kids.length (fl Zb x.E.Old.Kids),.val (.int .i64 x.E.New.Kind),.sl x.E.New.Words.length (fl (eI .u64) x.E.New.Words),.sl x.E.New.Kids.length (fl Zb x.E.New.Kids),.sl x.E.Words.length (fl Zf x.E.Words),.sl x.E.Kids.length (fl Zh x.E.Kids),.val (.int .i64 x.E.List_),.sl x.E.Ops.length (fl Zk x.E.Ops)]
def Zc (x:Zd):List G:=[.val (.int .i64 x.Kind),.val (.int .i64 x.Old.Kind),.sl x.Old.Words.length (fl (eI .u64) x.Old.Words),.sl x.Old.Kids.length (fl Zb x.Old.Kids),.val (.int .i64 x.New.Kind),.sl x.New.Words.length (fl (eI .u64) x.New.Words),.sl x.New.Kids.length (fl Zb x.New.Kids),.sl x.Words.length (fl Zf x.Words),.sl x.Kids.length (fl Zh x.Kids),.val (.int .i64 x.List_),.sl x.Ops.length (fl Zk x.Ops)]
def Zg (x:Za):List G:=[.val (.int .i64 x.Kind),.sl x.Words.length (fl (eI .u64) x.Words),.sl x.Kids.length (fl Zb x.Kids)]
def Gp (x:Zv):List G:=[.val (.int .i64 x.At),.val (.int .u8 x.Mask),.val (.int .u64 x.Old),.val (.int .u64 x.New)]
abbrev vI (x:Int):G := .val (.int .i64 x)
abbrev vB (x:Bool):G := .val (.bool x)
abbrev nV:G := .val (.slice none 0 0)
abbrev sL {α:Type} (e:α→List G) (x:List α):G := .sl x.length (fl e x)
abbrev oR {α:Type} (t s:Nat) (e:α→List G) (x:List α):GObj:=⟨true,t,s,x.length,fl e x⟩
theorem zFn {f:FuncId} {gs:List G} {O O2:Objs} {n n2:Nat} {r:G} {fn:Func} {c:Code} (hc:∀ args w,(callFunc f args).run Try.prog w = .ok (.enter f args) w) (hf:Try.prog.funcs[f]? = some fn) (h:Und O n→O n=none→(∀ k,O (n+k)=none)→W Try.prog n c (Fin Yk fn.results.toList r n O2 n2) ⟨fn.ntmps,[],Zo0 0 gs⟩ (Zt O n []) n) (hb:fn.body=some c:=by exact rfl) (hn:gs.length≤fn.ntmps:=by exact Nat.le_of_ble_eq_true rfl) (h2:n≤n2:=by first | exact Nat.le_refl _ | omega):GTo Try.prog f gs O n r O2 n2:=Z30 Yd hc hf hb hn h2 fun hU=>h hU (hU.fresh _ (Nat.le_refl _)) fun k=>hU.fresh _ (Nat.le_add_right _ _)
structure Hid (p:Prop):Prop where
 get:p
structure Ar {α:Type} (a:α):Prop where
def Ar.v {α:Type} {a:α} (_:Ar a):α:=a
theorem zQ {A B:Prop} (l0:List Nat) (b:B) (e:Ar l0→Hid B→A:=by intro x0 bZ;refine Zgi x0.v (Yb Yd [] ?_);simp only [push_cast,seval,↓reduceIte,Zq,Ar.v,hN0,hN];exact bZ.get):A:=e ⟨⟩ ⟨b⟩
theorem zQD {A B:Prop} (l0:List Nat) (l1:List (Option Bool)) (b:B) (e:Ar l0→Ar l1→Hid B→A:=by intro x0 x1 bZ;refine Zgi x0.v (Yb Yd x1.v ?_);simp only [push_cast,seval,↓reduceIte,Zq,Ar.v,hN0,hN];(repeat (with_reducible refine And.intro (by first | (intro h0;simp only [h0,and_self];done) | (intro h0;simp only [h0,Bool.not_false,Bool.not_true,Bool.true_and,Bool.and_true,true_and,and_true,and_self,imp_self,implies_true,bne_iff_ne,ne_eq,beq_iff_eq];done) | (intros;simp_all;done) | exact True.intro) ?_));exact bZ.get):A:=e ⟨⟩ ⟨⟩ ⟨b⟩
theorem Yw {A:Prop} (l0:List G) (e:Ar l0→A:=by intro x0;refine Z1t ?_;(try simp only [Yt,Z4]);have h:=Option.some.inj h;subst h;refine Zm9 (.inr rfl) hU x0.v (by omega) ?_;simp only [push_cast,seval,↓reduceIte,Zq,Ar.v,hN0,hN]):A:=e ⟨⟩
theorem Ve {A B:Prop} (l0:List Nat) (l1:List Bool) (b:B) (e:Ar l0→Ar l1→Hid B→A:=by intro x0 x1 bZ;refine Zwp ?_;(try simp only [Yt,Z4]);refine Zhh x0.v x1.v ?_;simp only [push_cast,seval,↓reduceIte,Ar.v];exact bZ.get):A:=e ⟨⟩ ⟨⟩ ⟨b⟩
theorem zQd {A B:Prop} (l0:List Nat) (l1:List Nat) (l2:List Bool) (b:B) (e:Ar l0→Ar l1→Ar l2→Hid B→A:=by intro x0 x1 x2 bZ;refine Zgi x0.v (Yb Yd [] ?_);simp only [push_cast,seval,↓reduceIte,Zq,Ar.v,hN0,hN];refine Zhh x1.v x2.v ?_;simp only [push_cast,seval,↓reduceIte,Ar.v];exact bZ.get):A:=e ⟨⟩ ⟨⟩ ⟨⟩ ⟨b⟩
theorem Gn {A B:Prop} (l0:List (Option Bool)) {P1:Prop} (p1:P1) {P2:Prop} (p2:P2) {P3:Prop} (p3:P3) (b:B) (e:Ar l0→P1→P2→P3→Hid B→A:=by intro x0 x1 x2 x3 bZ;refine Yb Yd x0.v ?_;simp only [push_cast,Nat.reduceAdd,Nat.reduceSub,Nat.reduceMul,Nat.reduceLeDiff,Nat.reduceLT,Nat.reduceEqDiff,↓reduceIte,reduceCtorEq,Int.reduceBEq,Int.reduceBNe,Nat.reduceBEq,Int.reduceLE,Int.reduceLT,Int.reduceEq,Int.reduceNe,Int.reduceNeg,Nat.reduceDiv,Nat.reduceMod,Nat.reducePow,Zq,Ar.v,x1,x2,x3,hN0,hN];exact bZ.get):A:=e ⟨⟩ p1 p2 p3 ⟨b⟩
theorem zF3 {A B:Prop} {P0:Prop} (p0:P0) {P1:Prop} (p1:P1) {P2:Prop} (p2:P2) (b:B) (e:P0→P1→P2→Hid B→A:=by intro x0 x1 x2 bZ;simp only [push_cast,Nat.reduceAdd,Nat.reduceSub,Nat.reduceMul,Nat.reduceLeDiff,Nat.reduceLT,Nat.reduceEqDiff,↓reduceIte,reduceCtorEq,Int.reduceBEq,Int.reduceBNe,Nat.reduceBEq,Int.reduceLE,Int.reduceLT,Int.reduceEq,Int.reduceNe,Int.reduceNeg,Nat.reduceDiv,Nat.reduceMod,Nat.reducePow,Zq,x0,x1,x2,hN0,hN];exact bZ.get):A:=e p0 p1 p2 ⟨b⟩
theorem zD {A B:Prop} (l0:List Nat) (l1:List Bool) (b:B) (e:Ar l0→Ar l1→Hid B→A:=by intro x0 x1 bZ;refine Zhh x0.v x1.v ?_;simp only [push_cast,seval,↓reduceIte,Ar.v];exact bZ.get):A:=e ⟨⟩ ⟨⟩ ⟨b⟩
theorem zR {A B:Prop} (b:B) (e:Hid B→A:=by intro bZ;refine Yb Yd [] ?_;simp only [push_cast,seval,↓reduceIte,Zq,hN0,hN];exact bZ.get):A:=e ⟨b⟩
theorem Ky {A:Prop} {P0:Prop} (p0:P0) (e:P0→A:=by intro x0;have h9:=Option.some.inj x0;subst h9;refine And.intro rfl (Fit2.of (Z5 hU rfl rfl ?_) (by omega));simp only [push_cast,seval,↓reduceIte,Zq,hN0,hN]):A:=e p0
theorem zEx {A:Prop} {P0:Prop} (p0:P0) (e:P0→A:=by intro x0;refine Z21 ?_;(try simp only [Yt,Z4,↓reduceIte,Nat.reduceEqDiff]);have h9:=Option.some.inj x0;subst h9;refine And.intro (fun h=>by cases h) (And.intro rfl (Fit2.of (Z5 hU rfl rfl ?_) (by omega)));simp only [push_cast,seval,↓reduceIte,Zq,hN0,hN]):A:=e p0
theorem zCd {A B:Prop} {P0:Prop} (p0:P0) (l1:List Nat) (l2:List Bool) (b:B) (e:P0→Ar l1→Ar l2→Hid B→A:=by intro x0 x1 x2 bZ;refine Yb Yd [] ?_;simp only [push_cast,seval,↓reduceIte,Zq,hN0,hN];refine x0.then ?_;simp only [push_cast,seval,↓reduceIte,Zq,hN0,hN];refine Zhh x1.v x2.v ?_;simp only [push_cast,seval,↓reduceIte,Ar.v];exact bZ.get):A:=e p0 ⟨⟩ ⟨⟩ ⟨b⟩
theorem zC {A B:Prop} {P0:Prop} (p0:P0) (b:B) (e:P0→Hid B→A:=by intro x0 bZ;refine Yb Yd [] ?_;simp only [push_cast,seval,↓reduceIte,Zq,hN0,hN];refine x0.then ?_;simp only [push_cast,seval,↓reduceIte,Zq,hN0,hN];exact bZ.get):A:=e p0 ⟨b⟩
theorem zK {A B:Prop} (b:B) (e:Hid B→A:=by intro bZ;refine Zwp ?_;(try simp only [Yt,Z4]);exact bZ.get):A:=e ⟨b⟩
theorem Zhg {A B:Prop} (l0:List (Option Bool)) {P1:Prop} (p1:P1) {P2:Prop} (p2:P2) {P3:Prop} (p3:P3) {P4:Prop} (p4:P4) (b:B) (e:Ar l0→P1→P2→P3→P4→Hid B→A:=by intro x0 x1 x2 x3 x4 bZ;refine Yb Yd x0.v ?_;simp only [push_cast,Nat.reduceAdd,Nat.reduceSub,Nat.reduceMul,Nat.reduceLeDiff,Nat.reduceLT,Nat.reduceEqDiff,↓reduceIte,reduceCtorEq,Int.reduceBEq,Int.reduceBNe,Nat.reduceBEq,Int.reduceLE,Int.reduceLT,Int.reduceEq,Int.reduceNe,Int.reduceNeg,Nat.reduceDiv,Nat.reduceMod,Nat.reducePow,Zq,Ar.v,x1,x2,x3,x4,hN0,hN];exact bZ.get):A:=e ⟨⟩ p1 p2 p3 p4 ⟨b⟩
theorem zF4 {A B:Prop} {P0:Prop} (p0:P0) {P1:Prop} (p1:P1) {P2:Prop} (p2:P2) {P3:Prop} (p3:P3) (b:B) (e:P0→P1→P2→P3→Hid B→A:=by intro x0 x1 x2 x3 bZ;simp only [push_cast,Nat.reduceAdd,Nat.reduceSub,Nat.reduceMul,Nat.reduceLeDiff,Nat.reduceLT,Nat.reduceEqDiff,↓reduceIte,reduceCtorEq,Int.reduceBEq,Int.reduceBNe,Nat.reduceBEq,Int.reduceLE,Int.reduceLT,Int.reduceEq,Int.reduceNe,Int.reduceNeg,Nat.reduceDiv,Nat.reduceMod,Nat.reducePow,Zq,x0,x1,x2,x3,hN0,hN];exact bZ.get):A:=e p0 p1 p2 p3 ⟨b⟩
theorem zDs {A B:Prop} (l0:List Nat) (l1:List Bool) (b:B) (e:Ar l0→Ar l1→Hid B→A:=by intro x0 x1 bZ;refine Zhh x0.v x1.v ?_;simp only [push_cast,seval,↓reduceIte,Ar.v];refine Ze ?_;exact bZ.get):A:=e ⟨⟩ ⟨⟩ ⟨b⟩
theorem zG {A B:Prop} (b:B) (e:Hid B→A:=by intro bZ;(repeat (with_reducible refine And.intro (by first | (intro h0;simp only [h0,and_self];done) | (intro h0;simp only [h0,Bool.not_false,Bool.not_true,Bool.true_and,Bool.and_true,true_and,and_true,and_self,imp_self,implies_true,bne_iff_ne,ne_eq,beq_iff_eq];done) | (intros;simp_all;done) | exact True.intro) ?_));exact bZ.get):A:=e ⟨b⟩
theorem Z0l {A B:Prop} (l0:List (Option Bool)) {P1:Prop} (p1:P1) {P2:Prop} (p2:P2) {P3:Prop} (p3:P3) {P4:Prop} (p4:P4) {P5:Prop} (p5:P5) {P6:Prop} (p6:P6) {P7:Prop} (p7:P7) (b:B) (e:Ar l0→P1→P2→P3→P4→P5→P6→P7→Hid B→A:=by intro x0 x1 x2 x3 x4 x5 x6 x7 bZ;refine Yb Yd x0.v ?_;simp only [push_cast,Nat.reduceAdd,Nat.reduceSub,Nat.reduceMul,Nat.reduceLeDiff,Nat.reduceLT,Nat.reduceEqDiff,↓reduceIte,reduceCtorEq,Int.reduceBEq,Int.reduceBNe,Nat.reduceBEq,Int.reduceLE,Int.reduceLT,Int.reduceEq,Int.reduceNe,Int.reduceNeg,Nat.reduceDiv,Nat.reduceMod,Nat.reducePow,Zq,Ar.v,x1,x2,x3,x4,x5,x6,x7,hN0,hN];exact bZ.get):A:=e ⟨⟩ p1 p2 p3 p4 p5 p6 p7 ⟨b⟩
theorem zF7 {A B:Prop} {P0:Prop} (p0:P0) {P1:Prop} (p1:P1) {P2:Prop} (p2:P2) {P3:Prop} (p3:P3) {P4:Prop} (p4:P4) {P5:Prop} (p5:P5) {P6:Prop} (p6:P6) (b:B) (e:P0→P1→P2→P3→P4→P5→P6→Hid B→A:=by intro x0 x1 x2 x3 x4 x5 x6 bZ;simp only [push_cast,Nat.reduceAdd,Nat.reduceSub,Nat.reduceMul,Nat.reduceLeDiff,Nat.reduceLT,Nat.reduceEqDiff,↓reduceIte,reduceCtorEq,Int.reduceBEq,Int.reduceBNe,Nat.reduceBEq,Int.reduceLE,Int.reduceLT,Int.reduceEq,Int.reduceNe,Int.reduceNeg,Nat.reduceDiv,Nat.reduceMod,Nat.reducePow,Zq,x0,x1,x2,x3,x4,x5,x6,hN0,hN];exact bZ.get):A:=e p0 p1 p2 p3 p4 p5 p6 ⟨b⟩
theorem Zrx {A:Prop} {P0:Prop} (p0:P0) {P1:Prop} (p1:P1) {P2:Prop} (p2:P2) {P3:Prop} (p3:P3) {P4:Prop} (p4:P4) (e:P0→P1→P2→P3→P4→A:=by intro x0 x1 x2 x3 x4;have h9:=Option.some.inj x0;subst h9;refine And.intro rfl (Fit2.of (Z5 hU rfl rfl ?_) (by omega));simp only [push_cast,Nat.reduceAdd,Nat.reduceSub,Nat.reduceMul,Nat.reduceLeDiff,Nat.reduceLT,Nat.reduceEqDiff,↓reduceIte,reduceCtorEq,Int.reduceBEq,Int.reduceBNe,Nat.reduceBEq,Int.reduceLE,Int.reduceLT,Int.reduceEq,Int.reduceNe,Int.reduceNeg,Nat.reduceDiv,Nat.reduceMod,Nat.reducePow,Zq,x1,x2,x3,x4,hN0,hN]):A:=e p0 p1 p2 p3 p4
theorem zRd {A B:Prop} (l0:List Nat) (l1:List Bool) (b:B) (e:Ar l0→Ar l1→Hid B→A:=by intro x0 x1 bZ;refine Yb Yd [] ?_;simp only [push_cast,seval,↓reduceIte,Zq,hN0,hN];refine Zhh x0.v x1.v ?_;simp only [push_cast,seval,↓reduceIte,Ar.v];exact bZ.get):A:=e ⟨⟩ ⟨⟩ ⟨b⟩
theorem zW {A B:Prop} (b:B) (e:Hid B→A:=by intro bZ;refine Z1t ?_;(try simp only [Yt,Z4]);exact bZ.get):A:=e ⟨b⟩
theorem zEy {A:Prop} {P0:Prop} (p0:P0) (e:P0→A:=by intro x0;have h9:=Option.some.inj x0;subst h9;refine And.intro (fun h=>by cases h) (And.intro rfl (Fit2.of (Z5 hU rfl rfl ?_) (by omega)));simp only [push_cast,seval,↓reduceIte,Zq,hN0,hN]):A:=e p0
theorem zX1 {A B:Prop} {P0:Prop} (p0:P0) (b:B) (e:P0→Hid B→A:=by intro x0 bZ;simp only [push_cast,seval,↓reduceIte,Zq,x0,hN0,hN];exact bZ.get):A:=e p0 ⟨b⟩
theorem Ge {A:Prop} {P0:Prop} (p0:P0) {P1:Prop} (p1:P1) (e:P0→P1→A:=by intro x0 x1;have h9:=Option.some.inj x0;subst h9;refine And.intro rfl (Fit2.of (Z5 hU rfl rfl ?_) (by omega));simp only [push_cast,seval,↓reduceIte,Zq,x1,hN0,hN]):A:=e p0 p1
theorem zX3 {A B:Prop} {P0:Prop} (p0:P0) {P1:Prop} (p1:P1) {P2:Prop} (p2:P2) (b:B) (e:P0→P1→P2→Hid B→A:=by intro x0 x1 x2 bZ;simp only [push_cast,seval,↓reduceIte,Zq,x0,x1,x2,hN0,hN];exact bZ.get):A:=e p0 p1 p2 ⟨b⟩
theorem Zhf {A:Prop} {P0:Prop} (p0:P0) {P1:Prop} (p1:P1) {P2:Prop} (p2:P2) {P3:Prop} (p3:P3) (e:P0→P1→P2→P3→A:=by intro x0 x1 x2 x3;have h9:=Option.some.inj x0;subst h9;refine And.intro rfl (Fit2.of (Z5 hU rfl rfl ?_) (by omega));simp only [push_cast,seval,↓reduceIte,Zq,x1,x2,x3,hN0,hN]):A:=e p0 p1 p2 p3
theorem zF8 {A B:Prop} {P0:Prop} (p0:P0) {P1:Prop} (p1:P1) {P2:Prop} (p2:P2) {P3:Prop} (p3:P3) {P4:Prop} (p4:P4) {P5:Prop} (p5:P5) {P6:Prop} (p6:P6) {P7:Prop} (p7:P7) (b:B) (e:P0→P1→P2→P3→P4→P5→P6→P7→Hid B→A:=by intro x0 x1 x2 x3 x4 x5 x6 x7 bZ;simp only [push_cast,Nat.reduceAdd,Nat.reduceSub,Nat.reduceMul,Nat.reduceLeDiff,Nat.reduceLT,Nat.reduceEqDiff,↓reduceIte,reduceCtorEq,Int.reduceBEq,Int.reduceBNe,Nat.reduceBEq,Int.reduceLE,Int.reduceLT,Int.reduceEq,Int.reduceNe,Int.reduceNeg,Nat.reduceDiv,Nat.reduceMod,Nat.reducePow,Zq,x0,x1,x2,x3,x4,x5,x6,x7,hN0,hN];exact bZ.get):A:=e p0 p1 p2 p3 p4 p5 p6 p7 ⟨b⟩
theorem Z6d {A:Prop} {P0:Prop} (p0:P0) {P1:Prop} (p1:P1) {P2:Prop} (p2:P2) {P3:Prop} (p3:P3) {P4:Prop} (p4:P4) {P5:Prop} (p5:P5) {P6:Prop} (p6:P6) {P7:Prop} (p7:P7) {P8:Prop} (p8:P8) (e:P0→P1→P2→P3→P4→P5→P6→P7→P8→A:=by intro x0 x1 x2 x3 x4 x5 x6 x7 x8;have h9:=Option.some.inj x0;subst h9;refine And.intro rfl (Fit2.of (Z5 hU rfl rfl ?_) (by omega));simp only [push_cast,Nat.reduceAdd,Nat.reduceSub,Nat.reduceMul,Nat.reduceLeDiff,Nat.reduceLT,Nat.reduceEqDiff,↓reduceIte,reduceCtorEq,Int.reduceBEq,Int.reduceBNe,Nat.reduceBEq,Int.reduceLE,Int.reduceLT,Int.reduceEq,Int.reduceNe,Int.reduceNeg,Nat.reduceDiv,Nat.reduceMod,Nat.reducePow,Zq,x1,x2,x3,x4,x5,x6,x7,x8,hN0,hN]):A:=e p0 p1 p2 p3 p4 p5 p6 p7 p8
theorem zX5 {A B:Prop} {P0:Prop} (p0:P0) {P1:Prop} (p1:P1) {P2:Prop} (p2:P2) {P3:Prop} (p3:P3) {P4:Prop} (p4:P4) (b:B) (e:P0→P1→P2→P3→P4→Hid B→A:=by intro x0 x1 x2 x3 x4 bZ;simp only [push_cast,seval,↓reduceIte,Zq,x0,x1,x2,x3,x4,hN0,hN];exact bZ.get):A:=e p0 p1 p2 p3 p4 ⟨b⟩
theorem Z6e {A:Prop} {P0:Prop} (p0:P0) {P1:Prop} (p1:P1) {P2:Prop} (p2:P2) {P3:Prop} (p3:P3) {P4:Prop} (p4:P4) {P5:Prop} (p5:P5) (e:P0→P1→P2→P3→P4→P5→A:=by intro x0 x1 x2 x3 x4 x5;have h9:=Option.some.inj x0;subst h9;refine And.intro rfl (Fit2.of (Z5 hU rfl rfl ?_) (by omega));simp only [push_cast,seval,↓reduceIte,Zq,x1,x2,x3,x4,x5,hN0,hN]):A:=e p0 p1 p2 p3 p4 p5
theorem zX4 {A B:Prop} {P0:Prop} (p0:P0) {P1:Prop} (p1:P1) {P2:Prop} (p2:P2) {P3:Prop} (p3:P3) (b:B) (e:P0→P1→P2→P3→Hid B→A:=by intro x0 x1 x2 x3 bZ;simp only [push_cast,seval,↓reduceIte,Zq,x0,x1,x2,x3,hN0,hN];exact bZ.get):A:=e p0 p1 p2 p3 ⟨b⟩
theorem Zvt {A:Prop} {P0:Prop} (p0:P0) {P1:Prop} (p1:P1) {P2:Prop} (p2:P2) {P3:Prop} (p3:P3) {P4:Prop} (p4:P4) (e:P0→P1→P2→P3→P4→A:=by intro x0 x1 x2 x3 x4;have h9:=Option.some.inj x0;subst h9;refine And.intro rfl (Fit2.of (Z5 hU rfl rfl ?_) (by omega));simp only [push_cast,seval,↓reduceIte,Zq,x1,x2,x3,x4,hN0,hN]):A:=e p0 p1 p2 p3 p4
theorem Z20 {A:Prop} {P0:Prop} (p0:P0) {P1:Prop} (p1:P1) {P2:Prop} (p2:P2) {P3:Prop} (p3:P3) {P4:Prop} (p4:P4) {P5:Prop} (p5:P5) {P6:Prop} (p6:P6) {P7:Prop} (p7:P7) (e:P0→P1→P2→P3→P4→P5→P6→P7→A:=by intro x0 x1 x2 x3 x4 x5 x6 x7;have h9:=Option.some.inj x0;subst h9;refine And.intro rfl (Fit2.of (Z5 hU rfl rfl ?_) (by omega));simp only [push_cast,Nat.reduceAdd,Nat.reduceSub,Nat.reduceMul,Nat.reduceLeDiff,Nat.reduceLT,Nat.reduceEqDiff,↓reduceIte,reduceCtorEq,Int.reduceBEq,Int.reduceBNe,Nat.reduceBEq,Int.reduceLE,Int.reduceLT,Int.reduceEq,Int.reduceNe,Int.reduceNeg,Nat.reduceDiv,Nat.reduceMod,Nat.reducePow,Zq,x1,x2,x3,x4,x5,x6,x7,hN0,hN]):A:=e p0 p1 p2 p3 p4 p5 p6 p7
theorem Zoc {A:Prop} (l0:List G) (e:Ar l0→A:=by intro x0;have h:=Option.some.inj h;subst h;refine Zm9 (.inr rfl) hU x0.v (by omega) ?_;simp only [push_cast,seval,↓reduceIte,Zq,Ar.v,hN0,hN]):A:=e ⟨⟩
theorem Z7n {A B:Prop} (l0:List Nat) {P1:Prop} (p1:P1) (b:B) (e:Ar l0→P1→Hid B→A:=by intro x0 x1 bZ;refine Zgi x0.v (Yb Yd [] ?_);simp only [push_cast,seval,↓reduceIte,Zq,Ar.v,x1,hN0,hN];exact bZ.get):A:=e ⟨⟩ p1 ⟨b⟩
theorem Zdo {A B:Prop} (l0:List (Option Bool)) {P1:Prop} (p1:P1) {P2:Prop} (p2:P2) {P3:Prop} (p3:P3) (b:B) (e:Ar l0→P1→P2→P3→Hid B→A:=by intro x0 x1 x2 x3 bZ;refine Yb Yd x0.v ?_;simp only [push_cast,seval,↓reduceIte,Zq,Ar.v,x1,x2,x3,hN0,hN];exact bZ.get):A:=e ⟨⟩ p1 p2 p3 ⟨b⟩
theorem Zeb {A B:Prop} (l0:List (Option Bool)) {P1:Prop} (p1:P1) {P2:Prop} (p2:P2) (b:B) (e:Ar l0→P1→P2→Hid B→A:=by intro x0 x1 x2 bZ;refine Yb Yd x0.v ?_;simp only [push_cast,seval,↓reduceIte,Zq,Ar.v,x1,x2,hN0,hN];exact bZ.get):A:=e ⟨⟩ p1 p2 ⟨b⟩
theorem Zvu {A B:Prop} (l0:List (Option Bool)) {P1:Prop} (p1:P1) {P2:Prop} (p2:P2) {P3:Prop} (p3:P3) {P4:Prop} (p4:P4) (b:B) (e:Ar l0→P1→P2→P3→P4→Hid B→A:=by intro x0 x1 x2 x3 x4 bZ;refine Yb Yd x0.v ?_;simp only [push_cast,seval,↓reduceIte,Zq,Ar.v,x1,x2,x3,x4,hN0,hN];exact bZ.get):A:=e ⟨⟩ p1 p2 p3 p4 ⟨b⟩
theorem Z7o {A:Prop} {P0:Prop} (p0:P0) {P1:Prop} (p1:P1) (e:P0→P1→A:=by intro x0 x1;simp only [push_cast,seval,↓reduceIte,Zq,x0,x1,hN0,hN]):A:=e p0 p1
theorem zX2 {A B:Prop} {P0:Prop} (p0:P0) {P1:Prop} (p1:P1) (b:B) (e:P0→P1→Hid B→A:=by intro x0 x1 bZ;simp only [push_cast,seval,↓reduceIte,Zq,x0,x1,hN0,hN];exact bZ.get):A:=e p0 p1 ⟨b⟩
theorem Zfv {A:Prop} {P0:Prop} (p0:P0) {P1:Prop} (p1:P1) {P2:Prop} (p2:P2) (e:P0→P1→P2→A:=by intro x0 x1 x2;have h9:=Option.some.inj x0;subst h9;refine And.intro rfl (Fit2.of (Z5 hU rfl rfl ?_) (by omega));simp only [push_cast,seval,↓reduceIte,Zq,x1,x2,hN0,hN]):A:=e p0 p1 p2
theorem Zbb {A B:Prop} (l0:List (Option Bool)) {P1:Prop} (p1:P1) (b:B) (e:Ar l0→P1→Hid B→A:=by intro x0 x1 bZ;refine Yb Yd x0.v ?_;simp only [push_cast,seval,↓reduceIte,Zq,Ar.v,x1,hN0,hN];exact bZ.get):A:=e ⟨⟩ p1 ⟨b⟩
theorem Z7p {A:Prop} {P0:Prop} (p0:P0) {P1:Prop} (p1:P1) {P2:Prop} (p2:P2) {P3:Prop} (p3:P3) (e:P0→P1→P2→P3→A:=by intro x0 x1 x2 x3;simp only [push_cast,seval,↓reduceIte,Zq,x0,x1,x2,x3,hN0,hN]):A:=e p0 p1 p2 p3
theorem Z6g {A B:Prop} (l0:List Nat) {P1:Prop} (p1:P1) {P2:Prop} (p2:P2) {P3:Prop} (p3:P3) {P4:Prop} (p4:P4) (b:B) (e:Ar l0→P1→P2→P3→P4→Hid B→A:=by intro x0 x1 x2 x3 x4 bZ;refine Zgi x0.v (Yb Yd [] ?_);simp only [push_cast,seval,↓reduceIte,Zq,Ar.v,x1,x2,x3,x4,hN0,hN];exact bZ.get):A:=e ⟨⟩ p1 p2 p3 p4 ⟨b⟩
theorem Z6h {A B:Prop} (l0:List (Option Bool)) {P1:Prop} (p1:P1) {P2:Prop} (p2:P2) {P3:Prop} (p3:P3) {P4:Prop} (p4:P4) {P5:Prop} (p5:P5) (b:B) (e:Ar l0→P1→P2→P3→P4→P5→Hid B→A:=by intro x0 x1 x2 x3 x4 x5 bZ;refine Yb Yd x0.v ?_;simp only [push_cast,Nat.reduceAdd,Nat.reduceSub,Nat.reduceMul,Nat.reduceLeDiff,Nat.reduceLT,Nat.reduceEqDiff,↓reduceIte,reduceCtorEq,Int.reduceBEq,Int.reduceBNe,Nat.reduceBEq,Int.reduceLE,Int.reduceLT,Int.reduceEq,Int.reduceNe,Int.reduceNeg,Nat.reduceDiv,Nat.reduceMod,Nat.reducePow,Zq,Ar.v,x1,x2,x3,x4,x5,hN0,hN];exact bZ.get):A:=e ⟨⟩ p1 p2 p3 p4 p5 ⟨b⟩
theorem Z6c {A:Prop} {P0:Prop} (p0:P0) {P1:Prop} (p1:P1) {P2:Prop} (p2:P2) {P3:Prop} (p3:P3) {P4:Prop} (p4:P4) {P5:Prop} (p5:P5) (e:P0→P1→P2→P3→P4→P5→A:=by intro x0 x1 x2 x3 x4 x5;have h9:=Option.some.inj x0;subst h9;refine And.intro rfl (Fit2.of (Z5 hU rfl rfl ?_) (by omega));simp only [push_cast,Nat.reduceAdd,Nat.reduceSub,Nat.reduceMul,Nat.reduceLeDiff,Nat.reduceLT,Nat.reduceEqDiff,↓reduceIte,reduceCtorEq,Int.reduceBEq,Int.reduceBNe,Nat.reduceBEq,Int.reduceLE,Int.reduceLT,Int.reduceEq,Int.reduceNe,Int.reduceNeg,Nat.reduceDiv,Nat.reduceMod,Nat.reducePow,Zq,x1,x2,x3,x4,x5,hN0,hN]):A:=e p0 p1 p2 p3 p4 p5
theorem zS {A B:Prop} (b:B) (e:Hid B→A:=by intro bZ;simp only [push_cast,seval,↓reduceIte,Zq,hN0,hN];exact bZ.get):A:=e ⟨b⟩
theorem zTs {A B:Prop} {P0:Prop} (p0:P0) (b:B) (e:P0→Hid B→A:=by intro x0 bZ;refine x0.then ?_;simp only [push_cast,seval,↓reduceIte,Zq,hN0,hN];exact bZ.get):A:=e p0 ⟨b⟩
theorem zSe {A:Prop} (e:A:=by simp only [push_cast,seval,↓reduceIte,Zq,hN0,hN]):A:=e
theorem Z3n {A:Prop} {P0:Prop} (p0:P0) (e:P0→A:=by intro x0;simp only [push_cast,seval,↓reduceIte,Zq,x0,hN0,hN]):A:=e p0
theorem Z1s {A:Prop} {P0:Prop} (p0:P0) {P1:Prop} (p1:P1) {P2:Prop} (p2:P2) (e:P0→P1→P2→A:=by intro x0 x1 x2;simp only [push_cast,seval,↓reduceIte,Zq,x0,x1,x2,hN0,hN]):A:=e p0 p1 p2
theorem Z6b {A:Prop} {P0:Prop} (p0:P0) {P1:Prop} (p1:P1) {P2:Prop} (p2:P2) {P3:Prop} (p3:P3) {P4:Prop} (p4:P4) {P5:Prop} (p5:P5) {P6:Prop} (p6:P6) {P7:Prop} (p7:P7) (e:P0→P1→P2→P3→P4→P5→P6→P7→A:=by intro x0 x1 x2 x3 x4 x5 x6 x7;refine And.intro rfl (Fit2.of (Z5 hU rfl rfl ?_) (by omega));simp only [push_cast,Nat.reduceAdd,Nat.reduceSub,Nat.reduceMul,Nat.reduceLeDiff,Nat.reduceLT,Nat.reduceEqDiff,↓reduceIte,reduceCtorEq,Int.reduceBEq,Int.reduceBNe,Nat.reduceBEq,Int.reduceLE,Int.reduceLT,Int.reduceEq,Int.reduceNe,Int.reduceNeg,Nat.reduceDiv,Nat.reduceMod,Nat.reducePow,Zq,x0,x1,x2,x3,x4,x5,x6,x7,hN0,hN]):A:=e p0 p1 p2 p3 p4 p5 p6 p7
theorem Z6f {A:Prop} {P0:Prop} (p0:P0) {P1:Prop} (p1:P1) {P2:Prop} (p2:P2) {P3:Prop} (p3:P3) {P4:Prop} (p4:P4) {P5:Prop} (p5:P5) {P6:Prop} (p6:P6) {P7:Prop} (p7:P7) (e:P0→P1→P2→P3→P4→P5→P6→P7→A:=by intro x0 x1 x2 x3 x4 x5 x6 x7;simp only [push_cast,Nat.reduceAdd,Nat.reduceSub,Nat.reduceMul,Nat.reduceLeDiff,Nat.reduceLT,Nat.reduceEqDiff,↓reduceIte,reduceCtorEq,Int.reduceBEq,Int.reduceBNe,Nat.reduceBEq,Int.reduceLE,Int.reduceLT,Int.reduceEq,Int.reduceNe,Int.reduceNeg,Nat.reduceDiv,Nat.reduceMod,Nat.reducePow,Zq,x0,x1,x2,x3,x4,x5,x6,x7,hN0,hN]):A:=e p0 p1 p2 p3 p4 p5 p6 p7
theorem Z6i {A B:Prop} (l0:List (Option Bool)) {P1:Prop} (p1:P1) {P2:Prop} (p2:P2) {P3:Prop} (p3:P3) {P4:Prop} (p4:P4) {P5:Prop} (p5:P5) {P6:Prop} (p6:P6) {P7:Prop} (p7:P7) (b:B) (e:Ar l0→P1→P2→P3→P4→P5→P6→P7→Hid B→A:=by intro x0 x1 x2 x3 x4 x5 x6 x7 bZ;refine Yb Yd x0.v ?_;simp only [push_cast,seval,↓reduceIte,Zq,Ar.v,x1,x2,x3,x4,x5,x6,x7,hN0,hN];exact bZ.get):A:=e ⟨⟩ p1 p2 p3 p4 p5 p6 p7 ⟨b⟩
theorem zRo {A B:Prop} (l0:List (Option Bool)) (b:B) (e:Ar l0→Hid B→A:=by intro x0 bZ;refine Yb Yd x0.v ?_;simp only [push_cast,seval,↓reduceIte,Zq,Ar.v,hN0,hN];exact bZ.get):A:=e ⟨⟩ ⟨b⟩
end Go.Proofs.Ytjeakjakgocoaaa
