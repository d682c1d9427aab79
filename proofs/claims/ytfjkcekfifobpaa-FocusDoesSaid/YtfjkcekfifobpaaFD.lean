/- Part FD of this seat's mirrors: functions of the seat's program, and the plain functions that they are; each theorem bears its own conditions. -/
import Derived.Test.YtfjkcekfifobpaaH25
import Derived.Test.YtfjkcekfifobpaaTy
namespace Go.Proofs.Ytfjkcekfifobpaa
open Go.RowKit
set_option linter.unusedVariables false
set_option linter.unusedSimpArgs false
set_option maxRecDepth 100000
set_option maxHeartbeats 4000000
structure Zb where
 Kind:Int
 Words:(List Int)
 Kids:(List Zb)
noncomputable def X9 (Qi:(Zb→Int→Int→Option Int)) (a0:Zb) (a1:Int) (s0_:(Int×Int)):Option ((Int×Int) ⊕ Int) :=
 cond (cond (decide (s0_.2 < (a0.Kids.length:Int))) (decide (0≤s0_.1)) false) ((Xp a0.Kids s0_.2).bind fun x1=>(Qi x1 (IntKind.i64.wrap (a1 - 1)) s0_.1).bind fun y2=>some (.inl (y2,(IntKind.i64.wrap (s0_.2+1))))) (some (.inr s0_.1))
noncomputable def Qf (Qi:(Zb→Int→Int→Option Int)) (a0:Zb) (a1:Int) (a2:Int):Option Int :=
 cond (cond (a1 == 0) true (decide ((IntKind.i64.wrap ((IntKind.i64.wrap (a2 - 1)) - (a0.Words.length:Int))) < 0))) (some (-1)) ((Zx (X9 Qi a0 a1) ((IntKind.i64.wrap ((IntKind.i64.wrap (a2 - 1)) - (a0.Words.length:Int))),0)).bind fun (z4:Int)=>some z4)
noncomputable def Y5:Nat→(Zb→Int→Int→Option Int)
 | 0=>(fun _ _ _=>none)
 | k+1=>Qf ((Y5 k))
noncomputable def X1 (a0:Zb) (a1:Int) (a2:Int):Option Int:=lim fun k=>(Y5 k) a0 a1 a2
noncomputable def Zax (a0:Zb):Option Bool :=
 (X1 a0 80 3000).bind fun y2=>some (decide (0≤y2))
noncomputable def Zep (a0:Int):Option Int :=
 cond (a0 == 0) (some 0) (cond (a0 == 1) (some 1) (cond (a0 == 2) (some 8) (cond (a0 == 3) (some 16) (cond (a0 == 4) (some 32) (cond (a0 == 5) (some 64) (some (-1)))))))
noncomputable def Qh (y2:Int) (s0_:(Int×Int)):Option ((Int×Int) ⊕ Int) :=
 cond (decide (s0_.2 < y2)) (some (.inl ((IntKind.u64.wrap (Int.tdiv s0_.1 2)),(IntKind.i64.wrap (s0_.2+1))))) (some (.inr s0_.1))
noncomputable def V8 (a0:Int) (a1:Int):Option Bool :=
 (Zep a0).bind fun y2=>cond (decide (y2 < 0)) (some false) ((Zx (Qh y2) (a1,0)).bind fun (z4:Int)=>some (z4 == 0))
noncomputable def K9 (Q3:(Zb→Int→Option Bool)) (a0:Zb) (a1:Int) (s0_:Int):Option (Int ⊕ (Unit ⊕ Unit)) :=
 cond (decide (s0_ < (a0.Kids.length:Int))) ((Xp a0.Kids s0_).bind fun x2=>(Q3 x2 (IntKind.i64.wrap (a1 - 1))).bind fun y4=>cond (!y4) (some (.inr (.inl ()))) ((cond ((cond (decide (2≤a0.Kind)) (decide (a0.Kind≤7)) false) != (x2.Kind == 10)) (some true) (cond (a0.Kind == 9) (cond (x2.Kind != 1) (some true) (cond (decide (2≤a0.Kind)) (cond (decide (a0.Kind≤7)) ((Xp x2.Words 0).bind fun x14=>(V8 (IntKind.i64.wrap (a0.Kind - 2)) x14).bind fun y15=>some (cond (cond ((cond (decide (2≤a0.Kind)) (decide (a0.Kind≤7)) false) != (x2.Kind == 10)) true (cond (a0.Kind == 9) (x2.Kind != 1) false)) true (cond (cond (decide (2≤a0.Kind)) (decide (a0.Kind≤7)) false) (!y15) false))) (some (cond (cond ((cond (decide (2≤a0.Kind)) (decide (a0.Kind≤7)) false) != (x2.Kind == 10)) true (cond (a0.Kind == 9) (x2.Kind != 1) false)) true false))) (some (cond (cond ((cond (decide (2≤a0.Kind)) (decide (a0.Kind≤7)) false) != (x2.Kind == 10)) true (cond (a0.Kind == 9) (x2.Kind != 1) false)) true false)))) (cond (decide (2≤a0.Kind)) (cond (decide (a0.Kind≤7)) ((Xp x2.Words 0).bind fun x16=>(V8 (IntKind.i64.wrap (a0.Kind - 2)) x16).bind fun y17=>some (cond (cond ((cond (decide (2≤a0.Kind)) (decide (a0.Kind≤7)) false) != (x2.Kind == 10)) true (cond (a0.Kind == 9) (x2.Kind != 1) false)) true (cond (cond (decide (2≤a0.Kind)) (decide (a0.Kind≤7)) false) (!y17) false))) (some (cond (cond ((cond (decide (2≤a0.Kind)) (decide (a0.Kind≤7)) false) != (x2.Kind == 10)) true (cond (a0.Kind == 9) (x2.Kind != 1) false)) true false))) (some (cond (cond ((cond (decide (2≤a0.Kind)) (decide (a0.Kind≤7)) false) != (x2.Kind == 10)) true (cond (a0.Kind == 9) (x2.Kind != 1) false)) true false))))).bind fun (z9:Bool)=>cond z9 (some (.inr (.inl ()))) (some (.inl (IntKind.i64.wrap (s0_+1)))))) (some (.inr (.inr ())))
noncomputable def Uz (Q3:(Zb→Int→Option Bool)) (a0:Zb) (a1:Int):Option Bool :=
 cond (a0.Kind == 0) (some (cond ((a0.Words.length:Int) == 0) ((a0.Kids.length:Int) == 0) false)) (cond (a0.Kind == 10) (some (cond ((a0.Words.length:Int) == 1) ((a0.Kids.length:Int) == 0) false)) (cond (cond (cond (cond (cond (cond (decide (a0.Kind < 0)) true (decide (10 < a0.Kind))) true (a1 == 0)) true (decide (65536≤(a0.Words.length:Int)))) true (cond (a0.Kind == 1) (decide (65536≤(a0.Kids.length:Int))) false)) true (decide (1048576≤(a0.Kids.length:Int)))) (some false) (cond (cond (decide (1 < a0.Kind)) (decide (0 < (a0.Words.length:Int))) false) (some false) ((Zx (K9 Q3 a0 a1) 0).bind fun (z28:(Unit ⊕ Unit))=>match z28 with | .inl z28=>some false | .inr z28=>some true))))
noncomputable def Ja:Nat→(Zb→Int→Option Bool)
 | 0=>(fun _ _=>none)
 | k+1=>Uz ((Ja k))
noncomputable def Vj (a0:Zb) (a1:Int):Option Bool:=lim fun k=>(Ja k) a0 a1
noncomputable def V7 (a0:Zb):Option Bool :=
 ((Zax a0).bind fun y6=>cond y6 ((Vj a0 64).bind fun y7=>some (cond (cond y6 y7 false) (a0.Kind != 10) false)) (some false)).bind fun (z3:Bool)=>some z3
structure Zs where
 At:Int
 Mask:Int
 Old:Int
 New:Int
mutual
structure Zc where
 Kind:Int
 Old:Zb
 New:Zb
 Words:(List Zs)
 Kids:(List Zl)
 List_:Int
 Ops:(List Zj)
structure Zj where
 Kind:Int
 N:Int
 L:(List Zb)
 E:Zc
structure Zl where
 At:Int
 E:Zc
end
noncomputable def Xx (X4:(Zc→Int→Int→Option Int)) (a0:Zc) (a1:Int) (s0_:(Int×Int)):Option ((Int×Int) ⊕ Int) :=
 cond (cond (decide (s0_.2 < (a0.Kids.length:Int))) (decide (0≤s0_.1)) false) ((Xp a0.Kids s0_.2).bind fun x6=>(X4 x6.E (IntKind.i64.wrap (a1 - 1)) s0_.1).bind fun y8=>some (.inl (y8,(IntKind.i64.wrap (s0_.2+1))))) (some (.inr s0_.1))
noncomputable def Qg (a0:Zc) (s1_:(Int×Int)) (s2_:(Int×Int)):Option ((Int×Int) ⊕ Int) :=
 (Xp a0.Ops s1_.2).bind fun x14=>cond (cond (decide (s2_.2 < (x14.L.length:Int))) (decide (0≤s2_.1)) false) ((Xp a0.Ops s1_.2).bind fun x16=>(Xp x16.L s2_.2).bind fun x18=>(X1 x18 80 s2_.1).bind fun y19=>some (.inl (y19,(IntKind.i64.wrap (s2_.2+1))))) (some (.inr s2_.1))
noncomputable def Xy (X4:(Zc→Int→Int→Option Int)) (a0:Zc) (a1:Int) (s1_:(Int×Int)):Option ((Int×Int) ⊕ Int) :=
 cond (cond (decide (s1_.2 < (a0.Ops.length:Int))) (decide (0≤s1_.1)) false) (((Zx (Qg a0 s1_) (s1_.1,0)).bind fun (z21:Int)=>cond (decide (0≤z21)) ((Xp a0.Ops s1_.2).bind fun x22=>(X4 x22.E (IntKind.i64.wrap (a1 - 1)) z21).bind fun y24=>some y24) (some z21)).bind fun (z11:Int)=>some (.inl (z11,(IntKind.i64.wrap (s1_.2+1))))) (some (.inr s1_.1))
noncomputable def Qb (X4:(Zc→Int→Int→Option Int)) (a0:Zc) (a1:Int) (a2:Int):Option Int :=
 cond (cond (a1 == 0) true (decide ((IntKind.i64.wrap ((IntKind.i64.wrap ((IntKind.i64.wrap (a2 - 1)) - (a0.Words.length:Int))) - (a0.Ops.length:Int))) < 0))) (some (-1)) ((X1 a0.Old 80 (IntKind.i64.wrap ((IntKind.i64.wrap ((IntKind.i64.wrap (a2 - 1)) - (a0.Words.length:Int))) - (a0.Ops.length:Int)))).bind fun y2=>(cond (decide (0≤y2)) ((X1 a0.New 80 y2).bind fun y4=>some y4) (some y2)).bind fun (z3:Int)=>(Zx (Xx X4 a0 a1) (z3,0)).bind fun (z10:Int)=>(Zx (Xy X4 a0 a1) (z10,0)).bind fun (z27:Int)=>some z27)
noncomputable def Z9:Nat→(Zc→Int→Int→Option Int)
 | 0=>(fun _ _ _=>none)
 | k+1=>Qb ((Z9 k))
noncomputable def Zct (a0:Zc) (a1:Int) (a2:Int):Option Int:=lim fun k=>(Z9 k) a0 a1 a2
noncomputable def Vk (a0:Zc):Option Bool :=
 (Zct a0 80 3000).bind fun y2=>some (decide (0≤y2))
noncomputable def Jg (a0:Zb):Option Bool :=
 some (cond (a0.Kind == 0) ((IntKind.i64.wrap ((a0.Words.length:Int)+(a0.Kids.length:Int))) == 0) false)
noncomputable def Vc (s0_:(Int×Int×(Arr Int 8))):Option ((Int×Int×(Arr Int 8)) ⊕ (Arr Int 8)) :=
 cond (decide (s0_.2.1 < 8)) ((Xp s0_.2.2.1 s0_.2.1).bind fun x15=>some (.inl ((IntKind.u64.wrap (Int.tdiv s0_.1 256)),(IntKind.i64.wrap (s0_.2.1+1)),(Arr.put s0_.2.2 s0_.2.1 (IntKind.u8.wrap (Int.tmod s0_.1 256)))))) (some (.inr s0_.2.2))
noncomputable def Vi (a0:Int):Option (Arr Int 8) :=
 ((some (⟨[0,0,0,0,0,0,0,0],rfl⟩:(Arr Int 8)))).bind fun y3=>((some (⟨[0,0,0,0,0,0,0,0],rfl⟩:(Arr Int 8)))).bind fun y9=>(Zx (Vc) (a0,0,y9)).bind fun (z18:(Arr Int 8))=>some z18
noncomputable def Jp (a1:Int) (s0_:(Int×Int)):Option ((Int×Int) ⊕ Int) :=
 cond (decide (s0_.2 < a1)) (some (.inl ((IntKind.u8.wrap (Int.tdiv s0_.1 2)),(IntKind.i64.wrap (s0_.2+1))))) (some (.inr s0_.1))
noncomputable def Gc (a0:Int) (a1:Int):Option Bool :=
 (Zx (Jp a1) (a0,0)).bind fun (z2:Int)=>some ((Int.tmod z2 2) == 1)
noncomputable def Gd (a0:(List Int)) (a1:Int) (s0_:(Int×Int)):Option ((Int×Int) ⊕ Int) :=
 cond (decide (0≤s0_.2)) ((Xp a0 (IntKind.i64.wrap (a1+s0_.2))).bind fun x1=>some (.inl ((IntKind.u64.wrap ((IntKind.u64.wrap (s0_.1 * 256))+(IntKind.u64.wrap x1))),(IntKind.i64.wrap (s0_.2 - 1))))) (some (.inr s0_.1))
noncomputable def Zek (a0:(List Int)) (a1:Int):Option Int :=
 (Zx (Gd a0 a1) (0,7)).bind fun (z3:Int)=>some z3
noncomputable def Uo (a2:Int) (y9:(Arr Int 8)) (s0_:(Int×(Arr Int 8))):Option ((Int×(Arr Int 8)) ⊕ (Arr Int 8)) :=
 cond (decide (s0_.1 < 8)) (((Gc a2 s0_.1).bind fun y17=>cond y17 ((Xp y9.1 s0_.1).bind fun x18=>(Xp s0_.2.1 s0_.1).bind fun x19=>some (Arr.put s0_.2 s0_.1 x18)) (some s0_.2)).bind fun (z15:(Arr Int 8))=>some (.inl ((IntKind.i64.wrap (s0_.1+1)),z15))) (some (.inr s0_.2))
noncomputable def Zaw (a0:Int) (a1:Int) (a2:Int):Option Int :=
 (Vi a0).bind fun y8=>(Vi a1).bind fun y9=>((some (⟨[0,0,0,0,0,0,0,0],rfl⟩:(Arr Int 8)))).bind fun y10=>(Zx (Uo a2 y9) (0,y8)).bind fun (z23:(Arr Int 8))=>(Zek z23.1 0).bind fun y29=>some y29
noncomputable def K0 (a0:Int) (a1:Int):Option Bool :=
 (Zaw a0 0 a1).bind fun y2=>some (y2 == 0)
noncomputable def V9 (a0:Zc):Option Bool :=
 (cond (a0.Kind == 0) ((Jg a0.Old).bind fun y6=>cond y6 ((Jg a0.New).bind fun y7=>some (cond (cond (cond (cond (a0.Kind == 0) y6 false) y7 false) ((IntKind.i64.wrap ((IntKind.i64.wrap ((a0.Words.length:Int)+(a0.Kids.length:Int)))+(a0.Ops.length:Int))) == 0) false) (a0.List_ == 0) false)) (some false)) (some false)).bind fun (z3:Bool)=>some z3
noncomputable def J7 (a0:Zc) (s0_:(Int×Int×Int)):Option ((Int×Int×Int) ⊕ (Int×Int)) :=
 cond (decide (s0_.2.2 < (a0.Ops.length:Int))) (((Xp a0.Ops s0_.2.2).bind fun x3=>(cond (x3.Kind == 3) (some 1) (some (IntKind.i64.wrap (x3.N+(x3.L.length:Int))))).bind fun (z4:Int)=>(cond (x3.Kind != 2) (some (IntKind.i64.wrap (s0_.1+z4))) (some s0_.1)).bind fun (z6:Int)=>(cond (x3.Kind != 1) (some (IntKind.i64.wrap (s0_.2.1+z4))) (some s0_.2.1)).bind fun (z8:Int)=>(cond (decide (1048576 < z6)) (some 1048576) (some z6)).bind fun (z10:Int)=>cond (decide (1048576 < z8)) (some (z10,1048576)) (some (z10,z8))).bind fun (z1:(Int×Int))=>some (.inl (z1.1,z1.2,(IntKind.i64.wrap (s0_.2.2+1))))) (some (.inr (s0_.1,s0_.2.1)))
noncomputable def J6 (a0:Zc):Option (Int×Int) :=
 (Zx (J7 a0) (0,0,0)).bind fun (z14:(Int×Int))=>some (z14.1,z14.2)
noncomputable def Jm (a0:Zc) (s0_:(Int×Int)):Option ((Int×Int) ⊕ (Unit ⊕ Unit)) :=
 cond (decide (s0_.2 < (a0.Words.length:Int))) ((Xp a0.Words s0_.2).bind fun x19=>(cond (decide (x19.At≤s0_.1)) (some true) (cond (decide (65534 < x19.At)) (some true) (cond (x19.Mask == 0) (some true) ((K0 x19.Old x19.Mask).bind fun y25=>cond y25 ((K0 x19.New x19.Mask).bind fun y26=>some (cond (cond (cond (cond (decide (x19.At≤s0_.1)) true (decide (65534 < x19.At))) true (x19.Mask == 0)) true (!y25)) true (!y26))) (some true))))).bind fun (z22:Bool)=>cond z22 (some (.inr (.inl ()))) (some (.inl (x19.At,(IntKind.i64.wrap (s0_.2+1)))))) (some (.inr (.inr ())))
noncomputable def Jn (Xj:(Zc→Int→Option Bool)) (a0:Zc) (a1:Int) (s1_:(Int×Int)):Option ((Int×Int) ⊕ (Unit ⊕ Unit)) :=
 cond (decide (s1_.2 < (a0.Kids.length:Int))) ((Xp a0.Kids s1_.2).bind fun x35=>(cond (decide (x35.At≤s1_.1)) (some true) (cond (decide (65534 < x35.At)) (some true) (cond (x35.E.Kind == 0) (some true) ((Xj x35.E (IntKind.i64.wrap (a1 - 1))).bind fun y39=>some (cond (cond (cond (decide (x35.At≤s1_.1)) true (decide (65534 < x35.At))) true (x35.E.Kind == 0)) true (!y39)))))).bind fun (z37:Bool)=>cond z37 (some (.inr (.inl ()))) (some (.inl (x35.At,(IntKind.i64.wrap (s1_.2+1)))))) (some (.inr (.inr ())))
noncomputable def Qr (X8:(Int→Zj→Int→Option Bool)) (a0:Zc) (a1:Int) (s2_:Int):Option (Int ⊕ (Unit ⊕ Unit)) :=
 cond (decide (s2_ < (a0.Ops.length:Int))) ((Xp a0.Ops s2_).bind fun x48=>(X8 a0.List_ x48 (IntKind.i64.wrap (a1 - 1))).bind fun y49=>cond (!y49) (some (.inr (.inl ()))) (some (.inl (IntKind.i64.wrap (s2_+1))))) (some (.inr (.inr ())))
noncomputable def U1 (Xj:(Zc→Int→Option Bool)) (X8:(Int→Zj→Int→Option Bool)) (a0:Zc) (a1:Int):Option Bool :=
 cond (cond (cond (a1 == 0) true (decide (a0.Kind < 0))) true (decide (3 < a0.Kind))) (some false) ((cond (a0.Kind != 1) ((Jg a0.Old).bind fun y6=>cond y6 ((Jg a0.New).bind fun y7=>some (cond (cond (cond (a0.Kind != 1) (!(cond y6 y7 false)) false) true (cond (a0.Kind != 2) (decide (0 < (IntKind.i64.wrap ((a0.Words.length:Int)+(a0.Kids.length:Int))))) false)) true (cond (a0.Kind != 3) (cond (a0.List_ != 0) true (decide (0 < (a0.Ops.length:Int)))) false))) (some true)) (some (cond (cond (a0.Kind != 2) (decide (0 < (IntKind.i64.wrap ((a0.Words.length:Int)+(a0.Kids.length:Int))))) false) true (cond (a0.Kind != 3) (cond (a0.List_ != 0) true (decide (0 < (a0.Ops.length:Int)))) false)))).bind fun (z3:Bool)=>cond z3 (some false) (cond (a0.Kind == 1) (((Vj a0.Old 64).bind fun y15=>cond y15 ((Vj a0.New 64).bind fun y16=>some (cond (cond (cond y15 y16 false) (a0.Old.Kind != 10) false) (a0.New.Kind != 10) false)) (some false)).bind fun (z12:Bool)=>some z12) ((Zx (Jm a0) ((-1),0)).bind fun (z33:(Unit ⊕ Unit))=>match z33 with | .inl z33=>some false | .inr z33=>(Zx (Jn Xj a0 a1) ((-1),0)).bind fun (z45:(Unit ⊕ Unit))=>match z45 with | .inl z45=>some false | .inr z45=>cond (cond (a0.Kind == 3) (cond (decide (a0.List_ < 2)) true (decide (9 < a0.List_))) false) (some false) ((Zx (Qr X8 a0 a1) 0).bind fun (z52:(Unit ⊕ Unit))=>match z52 with | .inl z52=>some false | .inr z52=>(J6 a0).bind fun y54=>some (cond (decide (y54.1 < 1048576)) (decide (y54.2 < 1048576)) false)))))
noncomputable def U2 (a0:Int) (a1:Zj) (s0_:Int):Option (Int ⊕ (Unit ⊕ Unit)) :=
 cond (decide (s0_ < (a1.L.length:Int))) ((Zd1 a1.L s0_ (IntKind.i64.wrap (s0_+1))).bind fun l10=>(Vj (⟨a0,[],l10⟩:Zb) 64).bind fun y11=>cond (!y11) (some (.inr (.inl ()))) (some (.inl (IntKind.i64.wrap (s0_+1))))) (some (.inr (.inr ())))
noncomputable def Zbs (Xj:(Zc→Int→Option Bool)) (X8:(Int→Zj→Int→Option Bool)) (a0:Int) (a1:Zj) (a2:Int):Option Bool :=
 cond (a1.Kind == 0) ((cond (decide (1≤a1.N)) (cond (decide (a1.N≤1048576)) (cond ((a1.L.length:Int) == 0) ((V9 a1.E).bind fun y4=>some (cond (cond (cond (decide (1≤a1.N)) (decide (a1.N≤1048576)) false) ((a1.L.length:Int) == 0) false) y4 false)) (some false)) (some false)) (some false)).bind fun (z2:Bool)=>some z2) (cond (cond (cond (a1.N != 0) true (decide (a1.Kind < 0))) true (decide (3 < a1.Kind))) (some false) (cond (decide (a1.Kind < 3)) ((Zx (U2 a0 a1) 0).bind fun (z14:(Unit ⊕ Unit))=>match z14 with | .inl z14=>some false | .inr z14=>(cond (decide (0 < (a1.L.length:Int))) ((V9 a1.E).bind fun y18=>some (cond (decide (0 < (a1.L.length:Int))) y18 false)) (some false)).bind fun (z16:Bool)=>some z16) ((cond (decide (0 < (a1.L.length:Int))) (some true) (cond (a1.E.Kind == 0) (some true) (cond (decide (a0≤7)) (some true) ((Xj a1.E a2).bind fun y23=>some (cond (cond (cond (decide (0 < (a1.L.length:Int))) true (a1.E.Kind == 0)) true (decide (a0≤7))) true (!y23)))))).bind fun (z21:Bool)=>cond z21 (some false) (some (cond (cond (a0 == 8) true (a1.E.Kind == 2)) true (cond (cond (a1.E.Kind == 1) (a1.E.Old.Kind == 1) false) (a1.E.New.Kind == 1) false))))))
noncomputable def Yq:Nat→((Zc→Int→Option Bool)×(Int→Zj→Int→Option Bool))
 | 0=>((fun _ _=>none),(fun _ _ _=>none))
 | k+1=>(U1 ((Yq k).1) ((Yq k).2),Zbs ((Yq k).1) ((Yq k).2))
noncomputable def Zer (a0:Zc) (a1:Int):Option Bool:=lim fun k=>(Yq k).1 a0 a1
noncomputable def Va (Xt:(Zc→Option Bool)) (a0:Zc) (s0_:Int):Option (Int ⊕ (Unit ⊕ Unit)) :=
 cond (decide (s0_ < (a0.Kids.length:Int))) ((Xp a0.Kids s0_).bind fun x6=>(Xt x6.E).bind fun y8=>cond (!y8) (some (.inr (.inl ()))) (some (.inl (IntKind.i64.wrap (s0_+1))))) (some (.inr (.inr ())))
noncomputable def Vb (Xt:(Zc→Option Bool)) (a0:Zc) (s1_:Int):Option (Int ⊕ (Unit ⊕ Unit)) :=
 cond (decide (s1_ < (a0.Ops.length:Int))) ((Xp a0.Ops s1_).bind fun x15=>(Xt x15.E).bind fun y17=>cond (!y17) (some (.inr (.inl ()))) (some (.inl (IntKind.i64.wrap (s1_+1))))) (some (.inr (.inr ())))
noncomputable def U0 (Xt:(Zc→Option Bool)) (a0:Zc):Option Bool :=
 (J6 a0).bind fun y2=>cond (cond (decide (2000 < y2.1)) true (decide (2000 < y2.2))) (some false) ((Zx (Va Xt a0) 0).bind fun (z11:(Unit ⊕ Unit))=>match z11 with | .inl z11=>some false | .inr z11=>(Zx (Vb Xt a0) 0).bind fun (z20:(Unit ⊕ Unit))=>match z20 with | .inl z20=>some false | .inr z20=>some true)
noncomputable def Jb:Nat→(Zc→Option Bool)
 | 0=>(fun _=>none)
 | k+1=>U0 ((Jb k))
noncomputable def Zeq (a0:Zc):Option Bool:=lim fun k=>(Jb k) a0
noncomputable def G8 (a0:Zc):Option Bool :=
 ((Vk a0).bind fun y8=>cond y8 ((Zer a0 64).bind fun y9=>cond y9 ((Zeq a0).bind fun y10=>some (cond (cond y8 y9 false) y10 false)) (some false)) (some false)).bind fun (z4:Bool)=>some z4
noncomputable def Zab (a0:Int):Option Bool :=
 some (cond (decide (2≤a0)) (decide (a0≤9)) false)
structure Zy where
 Kind:Int
 At:Int
noncomputable def Zjp (a0:Zb) (a1:Zy):Option Bool :=
 cond (cond (a1.Kind != 0) true (decide (a1.At < 0))) (some false) ((cond (a0.Kind == 1) (cond (decide (a1.At≤65534)) (some true) ((Zab a0.Kind).bind fun y6=>some (cond (cond (a0.Kind == 1) (decide (a1.At≤65534)) false) true (cond y6 (decide (a1.At < (a0.Kids.length:Int))) false)))) ((Zab a0.Kind).bind fun y7=>some (cond (cond (a0.Kind == 1) (decide (a1.At≤65534)) false) true (cond y7 (decide (a1.At < (a0.Kids.length:Int))) false)))).bind fun (z3:Bool)=>some z3)
noncomputable def Zgc (a0:Zb) (a1:Int):Option Zb :=
 cond (cond (decide (a1 < 0)) true (decide ((a0.Kids.length:Int)≤a1))) (some (⟨0,[],[]⟩:Zb)) ((Xp a0.Kids a1).bind fun x2=>some x2)
noncomputable def Zbi (a0:(List Zj)) (a1:Int):Option (List Zj) :=
 cond (a1 == 0) (some a0) ((Zbe 240 a0 ([(⟨0,a1,[],⟨0,⟨0,[],[]⟩,⟨0,[],[]⟩,[],[],0,[]⟩⟩:Zj)]:List Zj)).bind fun l2=>some l2)
noncomputable def Zhh (Gq:(Zb→(List Zy)→Zc→Option (Zc×Bool))) (a0:Zb) (a1:(List Zy)) (a2:Zc):Option (Zc×Bool) :=
 cond ((a1.length:Int) == 0) (some (a2,(a0.Kind != 10))) ((Xp a1 0).bind fun x3=>(Xp a1 0).bind fun x7=>(Zjp a0 x7).bind fun y8=>cond (!y8) (some ((⟨0,⟨0,[],[]⟩,⟨0,[],[]⟩,[],[],0,[]⟩:Zc),false)) ((Zgc a0 x3.At).bind fun y12=>(Zd1 a1 1 (a1.length:Int)).bind fun l13=>(Gq y12 l13 a2).bind fun y14=>cond (cond (!y14.2) true (y14.1.Kind == 0)) (some ((⟨0,⟨0,[],[]⟩,⟨0,[],[]⟩,[],[],0,[]⟩:Zc),y14.2)) (cond (a0.Kind == 1) (some ((⟨2,⟨0,[],[]⟩,⟨0,[],[]⟩,[],([(⟨x3.At,y14.1⟩:Zl)]:List Zl),0,[]⟩:Zc),true)) ((Zbi ([]:(List Zj)) x3.At).bind fun y16=>(Zbe 240 y16 ([(⟨3,0,[],y14.1⟩:Zj)]:List Zj)).bind fun l18=>(Zbi l18 (IntKind.i64.wrap ((IntKind.i64.wrap ((a0.Kids.length:Int) - x3.At)) - 1))).bind fun y20=>some ((⟨3,⟨0,[],[]⟩,⟨0,[],[]⟩,[],[],a0.Kind,y20⟩:Zc),true)))))
noncomputable def Zgb:Nat→(Zb→(List Zy)→Zc→Option (Zc×Bool))
 | 0=>(fun _ _ _=>none)
 | k+1=>Zhh ((Zgb k))
noncomputable def Zhj (a0:Zb) (a1:(List Zy)) (a2:Zc):Option (Zc×Bool):=lim fun k=>(Zgb k) a0 a1 a2
noncomputable def Up (a0:(List Int)) (s0_:Int):Option (Int ⊕ Int) :=
 (cond (decide (0 < s0_)) ((Xp a0 (IntKind.i64.wrap (s0_ - 1))).bind fun x4=>some (cond (decide (0 < s0_)) (x4 == 0) false)) (some false)).bind fun (z2:Bool)=>cond z2 (some (.inl (IntKind.i64.wrap (s0_ - 1)))) (some (.inr s0_))
noncomputable def Vl (a0:(List Int)):Option (List Int) :=
 (Zx (Up a0) (a0.length:Int)).bind fun (z7:Int)=>(Zd1 a0 0 z7).bind fun l9=>some l9
noncomputable def Ge (a0:(List Zb)) (s0_:Int):Option (Int ⊕ Int) :=
 (cond (decide (0 < s0_)) ((Xp a0 (IntKind.i64.wrap (s0_ - 1))).bind fun x6=>some (cond (decide (0 < s0_)) (x6.Kind == 0) false)) (some false)).bind fun (z3:Bool)=>cond z3 (some (.inl (IntKind.i64.wrap (s0_ - 1)))) (some (.inr s0_))
noncomputable def Uh (a0:(List Zb)):Option (List Zb) :=
 (Zx (Ge a0) (a0.length:Int)).bind fun (z10:Int)=>(Zd1 a0 0 z10).bind fun l12=>some l12
noncomputable def Zau (Za9:(Zb→Option Zb)) (z1:((List Int)×(List Zb))) (s0_:(Int×(List Zb))):Option ((Int×(List Zb)) ⊕ (List Zb)) :=
 cond (decide (s0_.1 < (z1.2.length:Int))) ((Xp z1.2 s0_.1).bind fun x9=>(Za9 x9).bind fun y10=>(Xp s0_.2 s0_.1).bind fun x11=>some (.inl ((IntKind.i64.wrap (s0_.1+1)),(Zgm s0_.2 s0_.1 y10)))) (some (.inr s0_.2))
noncomputable def Zgz (Za9:(Zb→Option Zb)) (a0:Zb):Option Zb :=
 cond (a0.Kind == 0) (some (⟨0,[],[]⟩:Zb)) ((cond (a0.Kind == 1) ((Vl a0.Words).bind fun y2=>(Uh a0.Kids).bind fun y3=>some (y2,y3)) (some (a0.Words,a0.Kids))).bind fun (z1:((List Int)×(List Zb)))=>(cond (decide (0 < (z1.2.length:Int))) ((Zma 56 (z1.2.length:Int) (⟨(0:Int),[],[]⟩:Zb)).bind fun l6=>some l6) (some ([]:List Zb))).bind fun (z5:(List Zb))=>(Zx (Zau Za9 z1) (0,z5)).bind fun (z14:(List Zb))=>some (⟨a0.Kind,z1.1,z14⟩:Zb))
noncomputable def Ur:Nat→(Zb→Option Zb)
 | 0=>(fun _=>none)
 | k+1=>Zgz ((Ur k))
noncomputable def Za6 (a0:Zb):Option Zb:=lim fun k=>(Ur k) a0
noncomputable def Qs (a0:List Zs):Option (List Zs) :=
 Zbe 32 ([]:List Zs) a0
structure Zw where
 out:(List Zj)
 kept:Int
 gone:(List Zb)
 come:(List Zb)
noncomputable def Xv (a0:Zw):Option Zw :=
 (cond (decide (0 < a0.kept)) ((Zbe 240 a0.out ([(⟨0,0,[],⟨0,⟨0,[],[]⟩,⟨0,[],[]⟩,[],[],0,[]⟩⟩:Zj)]:List Zj)).bind fun l2=>(Xp l2 (a0.out.length:Int)).bind fun x3=>some (a0.out++[(⟨0,a0.kept,[],⟨0,⟨0,[],[]⟩,⟨0,[],[]⟩,[],[],0,[]⟩⟩:Zj)])) (some a0.out)).bind fun (z1:(List Zj))=>(cond (decide (0 < (a0.gone.length:Int))) ((Zbe 240 z1 ([(⟨0,0,[],⟨0,⟨0,[],[]⟩,⟨0,[],[]⟩,[],[],0,[]⟩⟩:Zj)]:List Zj)).bind fun l9=>(Xp l9 (z1.length:Int)).bind fun x10=>some ((z1++[(⟨1,0,a0.gone,⟨0,⟨0,[],[]⟩,⟨0,[],[]⟩,[],[],0,[]⟩⟩:Zj)]),a0.gone)) (some (z1,a0.gone))).bind fun (z6:((List Zj)×(List Zb)))=>(cond (decide (0 < (a0.come.length:Int))) ((Zbe 240 z6.1 ([(⟨0,0,[],⟨0,⟨0,[],[]⟩,⟨0,[],[]⟩,[],[],0,[]⟩⟩:Zj)]:List Zj)).bind fun l16=>(Xp l16 (z6.1.length:Int)).bind fun x17=>some ((z6.1++[(⟨2,0,a0.come,⟨0,⟨0,[],[]⟩,⟨0,[],[]⟩,[],[],0,[]⟩⟩:Zj)]),a0.come)) (some (z6.1,a0.come))).bind fun (z13:((List Zj)×(List Zb)))=>some (⟨z13.1,0,[],[]⟩:Zw)
noncomputable def J9 (a0:Zw) (a1:Int):Option Zw :=
 (cond (a0.kept == 0) ((Xv (⟨a0.out,a0.kept,a0.gone,a0.come⟩:Zw)).bind fun y2=>some (y2.out,y2.gone,y2.come,y2.kept)) (some (a0.out,a0.gone,a0.come,a0.kept))).bind fun (z1:((List Zj)×(List Zb)×(List Zb)×Int))=>some (⟨z1.1,(IntKind.i64.wrap (z1.2.2.2+a1)),z1.2.1,z1.2.2.1⟩:Zw)
noncomputable def Qu (a2:(List Zb)) (s0_:(Int×(List Zb))):Option ((Int×(List Zb)) ⊕ (List Zb)) :=
 cond (decide (s0_.1 < (a2.length:Int))) ((Xp a2 s0_.1).bind fun x5=>(Za6 x5).bind fun y6=>(Zbe 56 s0_.2 ([(⟨0,[],[]⟩:Zb)]:List Zb)).bind fun l7=>(Xp l7 (s0_.2.length:Int)).bind fun x8=>some (.inl ((IntKind.i64.wrap (s0_.1+1)),(s0_.2++[y6])))) (some (.inr s0_.2))
noncomputable def Js (a0:Zw) (a2:(List Zb)):Option Zw :=
 (cond (decide (0 < a0.kept)) ((Xv (⟨a0.out,a0.kept,a0.gone,a0.come⟩:Zw)).bind fun y2=>some (y2.out,y2.gone,y2.come,y2.kept)) (some (a0.out,a0.gone,a0.come,a0.kept))).bind fun (z1:((List Zj)×(List Zb)×(List Zb)×Int))=>(Zx (Qu a2) (0,z1.2.1)).bind fun (z11:(List Zb))=>some (⟨z1.1,z1.2.2.2,z11,z1.2.2.1⟩:Zw)
noncomputable def Qv (a2:(List Zb)) (s0_:(Int×(List Zb))):Option ((Int×(List Zb)) ⊕ (List Zb)) :=
 cond (decide (s0_.1 < (a2.length:Int))) ((Xp a2 s0_.1).bind fun x5=>(Za6 x5).bind fun y6=>(Zbe 56 s0_.2 ([(⟨0,[],[]⟩:Zb)]:List Zb)).bind fun l7=>(Xp l7 (s0_.2.length:Int)).bind fun x8=>some (.inl ((IntKind.i64.wrap (s0_.1+1)),(s0_.2++[y6])))) (some (.inr s0_.2))
noncomputable def Jt (a0:Zw) (a2:(List Zb)):Option Zw :=
 (cond (decide (0 < a0.kept)) ((Xv (⟨a0.out,a0.kept,a0.gone,a0.come⟩:Zw)).bind fun y2=>some (y2.out,y2.gone,y2.come,y2.kept)) (some (a0.out,a0.gone,a0.come,a0.kept))).bind fun (z1:((List Zj)×(List Zb)×(List Zb)×Int))=>(Zx (Qv a2) (0,z1.2.2.1)).bind fun (z11:(List Zb))=>some (⟨z1.1,z1.2.2.2,z1.2.1,z11⟩:Zw)
noncomputable def Zed (a0:Int) (a1:Zc):Option Bool :=
 some (cond (a1.Kind == 0) true (cond (cond (a0 == 9) (a1.Kind == 2) false) ((IntKind.i64.wrap ((a1.Words.length:Int)+(a1.Kids.length:Int))) == 0) false))
noncomputable def J8 (a0:Zw) (a1:Int) (a2:Zc):Option Zw :=
 (Zed a1 a2).bind fun y2=>cond y2 ((J9 (⟨a0.out,a0.kept,a0.gone,a0.come⟩:Zw) 1).bind fun y4=>some (⟨y4.out,y4.kept,y4.gone,y4.come⟩:Zw)) ((Xv (⟨a0.out,a0.kept,a0.gone,a0.come⟩:Zw)).bind fun y6=>(Zbe 240 y6.out ([(⟨0,0,[],⟨0,⟨0,[],[]⟩,⟨0,[],[]⟩,[],[],0,[]⟩⟩:Zj)]:List Zj)).bind fun l7=>(Xp l7 (y6.out.length:Int)).bind fun x8=>some (⟨(y6.out++[(⟨3,0,[],a2⟩:Zj)]),y6.kept,y6.gone,y6.come⟩:Zw))
noncomputable def Zat (X6:(Zc→Option Zc)) (a0:Zc) (s0_:(Int×(List Zl))):Option ((Int×(List Zl)) ⊕ (List Zl)) :=
 cond (decide (s0_.1 < (a0.Kids.length:Int))) ((Xp a0.Kids s0_.1).bind fun x8=>(X6 x8.E).bind fun y9=>(Zbe 208 s0_.2 ([(⟨x8.At,y9⟩:Zl)]:List Zl)).bind fun l10=>some (.inl ((IntKind.i64.wrap (s0_.1+1)),l10))) (some (.inr s0_.2))
noncomputable def Zeb (X6:(Zc→Option Zc)) (Vt:(Int→(List Zj)→Option (List Zj))) (a0:Zc):Option Zc :=
 cond (a0.Kind == 1) ((Za6 a0.Old).bind fun y3=>(Za6 a0.New).bind fun y4=>some (⟨1,y3,y4,[],[],0,[]⟩:Zc)) (cond (a0.Kind == 2) ((Qs a0.Words).bind fun y6=>(Zx (Zat X6 a0) (0,([]:List Zl))).bind fun (z12:(List Zl))=>some (⟨2,⟨0,[],[]⟩,⟨0,[],[]⟩,y6,z12,0,[]⟩:Zc)) (cond (a0.Kind == 3) ((Vt a0.List_ a0.Ops).bind fun y14=>some (⟨3,⟨0,[],[]⟩,⟨0,[],[]⟩,[],[],a0.List_,y14⟩:Zc)) (some (⟨0,⟨0,[],[]⟩,⟨0,[],[]⟩,[],[],0,[]⟩:Zc))))
noncomputable def Ue (X6:(Zc→Option Zc)) (a0:Int) (a1:(List Zj)) (s0_:(Int×Int×(List Zj)×(List Zb)×(List Zb))):Option ((Int×Int×(List Zj)×(List Zb)×(List Zb)) ⊕ (Int×(List Zj)×(List Zb)×(List Zb))) :=
 cond (decide (s0_.1 < (a1.length:Int))) (((Xp a1 s0_.1).bind fun x3=>cond (x3.Kind == 0) ((J9 (⟨s0_.2.2.1,s0_.2.1,s0_.2.2.2.1,s0_.2.2.2.2⟩:Zw) x3.N).bind fun y4=>some (y4.kept,y4.out,y4.gone,y4.come)) (cond (x3.Kind == 1) ((Js (⟨s0_.2.2.1,s0_.2.1,s0_.2.2.2.1,s0_.2.2.2.2⟩:Zw) x3.L).bind fun y5=>some (y5.kept,y5.out,y5.gone,y5.come)) (cond (x3.Kind == 2) ((Jt (⟨s0_.2.2.1,s0_.2.1,s0_.2.2.2.1,s0_.2.2.2.2⟩:Zw) x3.L).bind fun y6=>some (y6.kept,y6.out,y6.gone,y6.come)) (cond (x3.Kind == 3) ((X6 x3.E).bind fun y7=>(J8 (⟨s0_.2.2.1,s0_.2.1,s0_.2.2.2.1,s0_.2.2.2.2⟩:Zw) a0 y7).bind fun y8=>some (y8.kept,y8.out,y8.gone,y8.come)) (some (s0_.2.1,s0_.2.2.1,s0_.2.2.2.1,s0_.2.2.2.2)))))).bind fun (z1:(Int×(List Zj)×(List Zb)×(List Zb)))=>some (.inl ((IntKind.i64.wrap (s0_.1+1)),z1.1,z1.2.1,z1.2.2.1,z1.2.2.2))) (some (.inr (s0_.2.1,s0_.2.2.1,s0_.2.2.2.1,s0_.2.2.2.2)))
noncomputable def Zdv (X6:(Zc→Option Zc)) (Vt:(Int→(List Zj)→Option (List Zj))) (a0:Int) (a1:(List Zj)):Option (List Zj) :=
 (Zx (Ue X6 a0 a1) (0,0,([]:List Zj),([]:List Zb),([]:List Zb))).bind fun (z14:(Int×(List Zj)×(List Zb)×(List Zb)))=>(Xv (⟨z14.2.1,z14.1,z14.2.2.1,z14.2.2.2⟩:Zw)).bind fun y16=>some y16.out
noncomputable def X0:Nat→((Zc→Option Zc)×(Int→(List Zj)→Option (List Zj)))
 | 0=>((fun _=>none),(fun _ _=>none))
 | k+1=>(Zeb ((X0 k).1) ((X0 k).2),Zdv ((X0 k).1) ((X0 k).2))
noncomputable def Zgx (a0:Zc):Option Zc:=lim fun k=>(X0 k).1 a0
noncomputable def Uw (a0:Zb):Option Bool :=
 some (cond (a0.Kind != 0) true (decide (0 < (IntKind.i64.wrap ((a0.Words.length:Int)+(a0.Kids.length:Int))))))
noncomputable def V0 (a0:Bool) (a1:Bool) (a2:Bool) (a3:Zc):Option Bool :=
 (cond a0 ((Uw a3.Old).bind fun y6=>cond y6 (some false) ((Uw a3.New).bind fun y7=>some (cond (cond (!(cond a0 (cond y6 true y7) false)) (!(cond a1 (decide (0 < (IntKind.i64.wrap ((a3.Words.length:Int)+(a3.Kids.length:Int))))) false)) false) (!(cond a2 (cond (a3.List_ != 0) true (decide (0 < (a3.Ops.length:Int)))) false)) false))) (some (cond (!(cond a1 (decide (0 < (IntKind.i64.wrap ((a3.Words.length:Int)+(a3.Kids.length:Int))))) false)) (!(cond a2 (cond (a3.List_ != 0) true (decide (0 < (a3.Ops.length:Int)))) false)) false))).bind fun (z3:Bool)=>some z3
noncomputable def V1 (a0:(List Zb)) (s0_:Int):Option (Int ⊕ (Unit ⊕ Unit)) :=
 cond (decide (s0_ < (a0.length:Int))) ((Xp a0 s0_).bind fun x2=>cond (x2.Kind != 1) (some (.inr (.inl ()))) (some (.inl (IntKind.i64.wrap (s0_+1))))) (some (.inr (.inr ())))
noncomputable def Zac (a0:(List Zb)):Option Bool :=
 (Zx (V1 a0) 0).bind fun (z5:(Unit ⊕ Unit))=>match z5 with | .inl z5=>some false | .inr z5=>some true
noncomputable def Zkz (a0:Int):Option (Int×Bool) :=
 ((some (⟨[0,1,8,16,32,64],rfl⟩:(Arr Int 6)))).bind fun y6=>((some (⟨[0,0,0,0,0,0],rfl⟩:(Arr Int 6)))).bind fun y8=>cond (cond (decide (a0 < 0)) true (decide (6≤a0))) (some (0,false)) ((Xp y6.1 a0).bind fun x12=>some (x12,true))
noncomputable def Zha (a0:Int) (a1:Int):Option Bool :=
 (Zkz a0).bind fun y2=>(cond y2.2 ((Zkr (0≤y2.1)).bind fun u6=>some (cond y2.2 ((Int.fdiv a1 (2 ^ min (Int.toNat y2.1) 64)) == 0) false)) (some false)).bind fun (z4:Bool)=>some z4
noncomputable def Ze8 (Xq:(Zb→Option Bool)) (Xo:(Zb→Int→Option Bool)) (Y4:((List Zb)→Int→Option Bool)) (Y9:((List Zb)→Int→Option Bool)) (a0:Zb):Option Bool :=
 cond (a0.Kind == 10) (some (cond ((a0.Words.length:Int) == 1) ((a0.Kids.length:Int) == 0) false)) ((Xo a0 64).bind fun y2=>some y2)
noncomputable def Ze9 (Xq:(Zb→Option Bool)) (Xo:(Zb→Int→Option Bool)) (Y4:((List Zb)→Int→Option Bool)) (Y9:((List Zb)→Int→Option Bool)) (a0:Zb) (a1:Int):Option Bool :=
 cond (a0.Kind == 0) (some (cond ((a0.Words.length:Int) == 0) ((a0.Kids.length:Int) == 0) false)) (cond (a1 == 0) (some false) (cond (a0.Kind == 1) ((cond (decide ((a0.Words.length:Int) < 65536)) (cond (decide ((a0.Kids.length:Int) < 65536)) ((Y4 a0.Kids (IntKind.i64.wrap (a1 - 1))).bind fun y4=>some (cond (cond (decide ((a0.Words.length:Int) < 65536)) (decide ((a0.Kids.length:Int) < 65536)) false) y4 false)) (some false)) (some false)).bind fun (z2:Bool)=>some z2) ((Zab a0.Kind).bind fun y8=>cond (cond (cond (!y8) true (decide (0 < (a0.Words.length:Int)))) true (decide (1048576≤(a0.Kids.length:Int)))) (some false) (cond (a0.Kind == 8) ((Y4 a0.Kids (IntKind.i64.wrap (a1 - 1))).bind fun y10=>some y10) (cond (a0.Kind == 9) (((Zac a0.Kids).bind fun y16=>cond y16 ((Y4 a0.Kids (IntKind.i64.wrap (a1 - 1))).bind fun y17=>some (cond y16 y17 false)) (some false)).bind fun (z13:Bool)=>some z13) ((Y9 a0.Kids (IntKind.i64.wrap (a0.Kind - 2))).bind fun y20=>some y20))))))
noncomputable def U5 (Xo:(Zb→Int→Option Bool)) (a0:(List Zb)) (a1:Int) (s0_:Int):Option (Int ⊕ (Unit ⊕ Unit)) :=
 cond (decide (s0_ < (a0.length:Int))) ((Xp a0 s0_).bind fun x2=>(Xo x2 a1).bind fun y4=>cond (!y4) (some (.inr (.inl ()))) (some (.inl (IntKind.i64.wrap (s0_+1))))) (some (.inr (.inr ())))
noncomputable def Zbv (Xq:(Zb→Option Bool)) (Xo:(Zb→Int→Option Bool)) (Y4:((List Zb)→Int→Option Bool)) (Y9:((List Zb)→Int→Option Bool)) (a0:(List Zb)) (a1:Int):Option Bool :=
 (Zx (U5 Xo a0 a1) 0).bind fun (z7:(Unit ⊕ Unit))=>match z7 with | .inl z7=>some false | .inr z7=>some true
noncomputable def U4 (Xq:(Zb→Option Bool)) (a0:(List Zb)) (a1:Int) (s0_:Int):Option (Int ⊕ (Unit ⊕ Unit)) :=
 cond (decide (s0_ < (a0.length:Int))) ((Xp a0 s0_).bind fun x2=>(cond (x2.Kind != 10) (some true) ((Xq x2).bind fun y10=>cond y10 ((Xp x2.Words 0).bind fun x11=>(Zha a1 x11).bind fun y12=>some (cond (cond (x2.Kind != 10) true (!y10)) true (!y12))) (some true))).bind fun (z6:Bool)=>cond z6 (some (.inr (.inl ()))) (some (.inl (IntKind.i64.wrap (s0_+1))))) (some (.inr (.inr ())))
noncomputable def Zbu (Xq:(Zb→Option Bool)) (Xo:(Zb→Int→Option Bool)) (Y4:((List Zb)→Int→Option Bool)) (Y9:((List Zb)→Int→Option Bool)) (a0:(List Zb)) (a1:Int):Option Bool :=
 (Zx (U4 Xq a0 a1) 0).bind fun (z17:(Unit ⊕ Unit))=>match z17 with | .inl z17=>some false | .inr z17=>some true
noncomputable def Zz:Nat→((Zb→Option Bool)×(Zb→Int→Option Bool)×((List Zb)→Int→Option Bool)×((List Zb)→Int→Option Bool))
 | 0=>((fun _=>none),(fun _ _=>none),(fun _ _=>none),(fun _ _=>none))
 | k+1=>(Ze8 ((Zz k).1) ((Zz k).2.1) ((Zz k).2.2.1) ((Zz k).2.2.2),Ze9 ((Zz k).1) ((Zz k).2.1) ((Zz k).2.2.1) ((Zz k).2.2.2),Zbv ((Zz k).1) ((Zz k).2.1) ((Zz k).2.2.1) ((Zz k).2.2.2),Zbu ((Zz k).1) ((Zz k).2.1) ((Zz k).2.2.1) ((Zz k).2.2.2))
noncomputable def Zhz (a0:Zb):Option Bool:=lim fun k=>(Zz k).1 a0
noncomputable def Zdz (a0:Zb):Option Bool :=
 (cond (a0.Kind != 10) ((Zhz a0).bind fun y4=>some (cond (a0.Kind != 10) y4 false)) (some false)).bind fun (z2:Bool)=>some z2
noncomputable def Zc7 (a0:Int) (s0_:(Int×Int)):Option ((Int×Int) ⊕ Int) :=
 cond (decide (s0_.2 < 8)) (((Zkr (0≤s0_.2)).bind fun u3=>cond ((IntKind.u8.wrap (Zez .u8 (Int.fdiv a0 (2 ^ min (Int.toNat s0_.2) 8)) 1)) == 1) ((Zkr (0≤(IntKind.i64.wrap (8 * s0_.2)))).bind fun u4=>some (IntKind.u64.wrap (Zu2 .u64 s0_.1 (IntKind.u64.wrap (255 * 2 ^ min (Int.toNat (IntKind.i64.wrap (8 * s0_.2))) 64))))) (some s0_.1)).bind fun (z1:Int)=>some (.inl (z1,(IntKind.i64.wrap (s0_.2+1))))) (some (.inr s0_.1))
noncomputable def Zad (a0:Int):Option Int :=
 (Zx (Zc7 a0) (0,0)).bind fun (z7:Int)=>some z7
noncomputable def Vz (a0:(List Zs)) (s0_:(Int×Int)):Option ((Int×Int) ⊕ (Unit ⊕ Unit)) :=
 cond (decide (s0_.2 < (a0.length:Int))) ((Xp a0 s0_.2).bind fun x2=>(Zad x2.Mask).bind fun y4=>cond (cond (cond (cond (cond (decide (x2.At≤s0_.1)) true (decide (65534 < x2.At))) true (x2.Mask == 0)) true ((IntKind.u64.wrap (Zez .u64 x2.Old (IntKind.u64.wrap (Zg8 .u64 (if IntKind.signed .u64=true then -1 else IntKind.max .u64) y4)))) != 0)) true ((IntKind.u64.wrap (Zez .u64 x2.New (IntKind.u64.wrap (Zg8 .u64 (if IntKind.signed .u64=true then -1 else IntKind.max .u64) y4)))) != 0)) (some (.inr (.inl ()))) (some (.inl (x2.At,(IntKind.i64.wrap (s0_.2+1)))))) (some (.inr (.inr ())))
noncomputable def Zaa (a0:(List Zs)):Option Bool :=
 (Zx (Vz a0) ((-1),0)).bind fun (z7:(Unit ⊕ Unit))=>match z7 with | .inl z7=>some false | .inr z7=>some true
noncomputable def Zbz (a0:Int) (a1:Zc):Option Bool :=
 cond (a0 == 8) (some (a1.Kind != 0)) (cond (a0 == 9) (some (cond (a1.Kind == 2) true (cond (cond (a1.Kind == 1) (a1.Old.Kind == 1) false) (a1.New.Kind == 1) false))) (some false))
noncomputable def Zay (a0:Zj):Option Int :=
 cond (a0.Kind == 0) (some (if 1048576 < (if a0.N < 0 then 0 else a0.N) then 1048576 else (if a0.N < 0 then 0 else a0.N))) ((cond (a0.Kind == 1) (some (a0.Kind == 1)) (some (a0.Kind == 2))).bind fun (z1:Bool)=>cond z1 (some (a0.L.length:Int)) (cond (a0.Kind == 3) (some 1) (some 0)))
noncomputable def G9 (a0:Zc) (s0_:(Int×Int×Int)):Option ((Int×Int×Int) ⊕ (Int×Int)) :=
 cond (decide (s0_.2.2 < (a0.Ops.length:Int))) (((Xp a0.Ops s0_.2.2).bind fun x3=>(cond (x3.Kind != 2) ((Zay x3).bind fun y5=>some (if 1048576 < (IntKind.i64.wrap (s0_.1+y5)) then 1048576 else (IntKind.i64.wrap (s0_.1+y5)))) (some s0_.1)).bind fun (z4:Int)=>cond (x3.Kind != 1) ((Zay x3).bind fun y7=>some (z4,(if 1048576 < (IntKind.i64.wrap (s0_.2.1+y7)) then 1048576 else (IntKind.i64.wrap (s0_.2.1+y7))))) (some (z4,s0_.2.1))).bind fun (z1:(Int×Int))=>some (.inl (z1.1,z1.2,(IntKind.i64.wrap (s0_.2.2+1))))) (some (.inr (s0_.1,s0_.2.1)))
noncomputable def Zc5 (a0:Zc):Option (Int×Int) :=
 (Zx (G9 a0) (0,0,0)).bind fun (z10:(Int×Int))=>some (z10.1,z10.2)
noncomputable def Ze5 (Yt:(Zc→Option Bool)) (Ym:(Zc→Int→Option Bool)) (Z6:((List Zl)→Int→Option Bool)) (Ya:(Zc→Int→Option Bool)) (Yc:(Int→Zj→Int→Option Bool)) (Z5:(Bool→Bool→Bool→Zj→Option Bool)) (a0:Zc):Option Bool :=
 (Ym a0 64).bind fun y2=>some y2
noncomputable def Ze6 (Yt:(Zc→Option Bool)) (Ym:(Zc→Int→Option Bool)) (Z6:((List Zl)→Int→Option Bool)) (Ya:(Zc→Int→Option Bool)) (Yc:(Int→Zj→Int→Option Bool)) (Z5:(Bool→Bool→Bool→Zj→Option Bool)) (a0:Zc) (a1:Int):Option Bool :=
 cond (a1 == 0) (some false) (cond (a0.Kind == 0) ((V0 true true true a0).bind fun y2=>some y2) (cond (a0.Kind == 1) (((V0 false true true a0).bind fun y10=>cond y10 ((Zdz a0.Old).bind fun y11=>cond y11 ((Zdz a0.New).bind fun y12=>some (cond (cond y10 y11 false) y12 false)) (some false)) (some false)).bind fun (z6:Bool)=>some z6) (cond (a0.Kind == 2) (((V0 true false true a0).bind fun y22=>cond y22 ((Zaa a0.Words).bind fun y23=>cond y23 ((Z6 a0.Kids (IntKind.i64.wrap (a1 - 1))).bind fun y24=>some (cond (cond y22 y23 false) y24 false)) (some false)) (some false)).bind fun (z18:Bool)=>some z18) (cond (a0.Kind == 3) (((V0 true true false a0).bind fun y32=>cond y32 ((Ya a0 (IntKind.i64.wrap (a1 - 1))).bind fun y33=>some (cond y32 y33 false)) (some false)).bind fun (z29:Bool)=>some z29) (some false)))))
noncomputable def Um (Ym:(Zc→Int→Option Bool)) (a0:(List Zl)) (a1:Int) (s0_:(Int×Int)):Option ((Int×Int) ⊕ (Unit ⊕ Unit)) :=
 cond (decide (s0_.2 < (a0.length:Int))) ((Xp a0 s0_.2).bind fun x2=>(cond (decide (x2.At≤s0_.1)) (some true) (cond (decide (65534 < x2.At)) (some true) (cond (x2.E.Kind == 0) (some true) ((Ym x2.E a1).bind fun y6=>some (cond (cond (cond (decide (x2.At≤s0_.1)) true (decide (65534 < x2.At))) true (x2.E.Kind == 0)) true (!y6)))))).bind fun (z4:Bool)=>cond z4 (some (.inr (.inl ()))) (some (.inl (x2.At,(IntKind.i64.wrap (s0_.2+1)))))) (some (.inr (.inr ())))
noncomputable def Zar (Yt:(Zc→Option Bool)) (Ym:(Zc→Int→Option Bool)) (Z6:((List Zl)→Int→Option Bool)) (Ya:(Zc→Int→Option Bool)) (Yc:(Int→Zj→Int→Option Bool)) (Z5:(Bool→Bool→Bool→Zj→Option Bool)) (a0:(List Zl)) (a1:Int):Option Bool :=
 (Zx (Um Ym a0 a1) ((-1),0)).bind fun (z12:(Unit ⊕ Unit))=>match z12 with | .inl z12=>some false | .inr z12=>some true
noncomputable def U3 (Yc:(Int→Zj→Int→Option Bool)) (a0:Zc) (a1:Int) (s0_:Int):Option (Int ⊕ (Unit ⊕ Unit)) :=
 cond (decide (s0_ < (a0.Ops.length:Int))) ((Xp a0.Ops s0_).bind fun x4=>(Yc a0.List_ x4 a1).bind fun y6=>cond (!y6) (some (.inr (.inl ()))) (some (.inl (IntKind.i64.wrap (s0_+1))))) (some (.inr (.inr ())))
noncomputable def Zbt (Yt:(Zc→Option Bool)) (Ym:(Zc→Int→Option Bool)) (Z6:((List Zl)→Int→Option Bool)) (Ya:(Zc→Int→Option Bool)) (Yc:(Int→Zj→Int→Option Bool)) (Z5:(Bool→Bool→Bool→Zj→Option Bool)) (a0:Zc) (a1:Int):Option Bool :=
 (Zab a0.List_).bind fun y2=>cond (!y2) (some false) ((Zx (U3 Yc a0 a1) 0).bind fun (z9:(Unit ⊕ Unit))=>match z9 with | .inl z9=>some false | .inr z9=>(Zc5 a0).bind fun y11=>some (cond (decide (y11.1 < 1048576)) (decide (y11.2 < 1048576)) false))
noncomputable def Zcv (Yt:(Zc→Option Bool)) (Ym:(Zc→Int→Option Bool)) (Z6:((List Zl)→Int→Option Bool)) (Ya:(Zc→Int→Option Bool)) (Yc:(Int→Zj→Int→Option Bool)) (Z5:(Bool→Bool→Bool→Zj→Option Bool)) (a0:Int) (a1:Zj) (a2:Int):Option Bool :=
 (cond (a1.Kind == 0) ((Z5 false true true a1).bind fun y3=>some (.inr (.inl (cond (cond y3 (decide (1≤a1.N)) false) (decide (a1.N≤1048576)) false)))) (cond (a1.Kind == 1) (some (.inl ())) (cond (a1.Kind == 2) (some (.inl ())) (cond (a1.Kind == 3) (some (.inr (.inr (.inl ())))) (some (.inr (.inr (.inr ())))))))).bind fun (z1:(Unit ⊕ (Bool ⊕ (Unit ⊕ Unit))))=>match z1 with | .inl z1=>((Z5 true false true a1).bind fun y13=>cond y13 (cond (decide (0 < (a1.L.length:Int))) ((Zhz (⟨a0,[],a1.L⟩:Zb)).bind fun y14=>some (cond (cond y13 (decide (0 < (a1.L.length:Int))) false) y14 false)) (some false)) (some false)).bind fun (z10:Bool)=>some z10 | .inr z1=>match z1 with | .inl z1=>some z1 | .inr z1=>match z1 with | .inl z1=>((Z5 true true false a1).bind fun y24=>cond y24 ((Zbz a0 a1.E).bind fun y25=>cond y25 ((Ym a1.E a2).bind fun y26=>some (cond (cond y24 y25 false) y26 false)) (some false)) (some false)).bind fun (z20:Bool)=>some z20 | .inr z1=>some false
noncomputable def Zas (Yt:(Zc→Option Bool)) (Ym:(Zc→Int→Option Bool)) (Z6:((List Zl)→Int→Option Bool)) (Ya:(Zc→Int→Option Bool)) (Yc:(Int→Zj→Int→Option Bool)) (Z5:(Bool→Bool→Bool→Zj→Option Bool)) (a0:Bool) (a1:Bool) (a2:Bool) (a3:Zj):Option Bool :=
 (cond a0 (cond (a3.N != 0) (some false) (cond a1 (cond (decide (0 < (a3.L.length:Int))) (some false) (cond a2 (cond (a3.E.Kind != 0) (some (cond (cond (!(cond a0 (a3.N != 0) false)) (!(cond a1 (decide (0 < (a3.L.length:Int))) false)) false) (!(cond a2 true false)) false)) ((Yt a3.E).bind fun y10=>some (cond (cond (!(cond a0 (a3.N != 0) false)) (!(cond a1 (decide (0 < (a3.L.length:Int))) false)) false) (!(cond a2 (cond (a3.E.Kind != 0) true (!y10)) false)) false))) (some (cond (cond (!(cond a0 (a3.N != 0) false)) (!(cond a1 (decide (0 < (a3.L.length:Int))) false)) false) true false)))) (cond a2 (cond (a3.E.Kind != 0) (some (cond (cond (!(cond a0 (a3.N != 0) false)) (!(cond a1 (decide (0 < (a3.L.length:Int))) false)) false) (!(cond a2 true false)) false)) ((Yt a3.E).bind fun y11=>some (cond (cond (!(cond a0 (a3.N != 0) false)) (!(cond a1 (decide (0 < (a3.L.length:Int))) false)) false) (!(cond a2 (cond (a3.E.Kind != 0) true (!y11)) false)) false))) (some (cond (cond (!(cond a0 (a3.N != 0) false)) (!(cond a1 (decide (0 < (a3.L.length:Int))) false)) false) true false))))) (cond a1 (cond (decide (0 < (a3.L.length:Int))) (some false) (cond a2 (cond (a3.E.Kind != 0) (some (cond (cond (!(cond a0 (a3.N != 0) false)) (!(cond a1 (decide (0 < (a3.L.length:Int))) false)) false) (!(cond a2 true false)) false)) ((Yt a3.E).bind fun y12=>some (cond (cond (!(cond a0 (a3.N != 0) false)) (!(cond a1 (decide (0 < (a3.L.length:Int))) false)) false) (!(cond a2 (cond (a3.E.Kind != 0) true (!y12)) false)) false))) (some (cond (cond (!(cond a0 (a3.N != 0) false)) (!(cond a1 (decide (0 < (a3.L.length:Int))) false)) false) true false)))) (cond a2 (cond (a3.E.Kind != 0) (some (cond (cond (!(cond a0 (a3.N != 0) false)) (!(cond a1 (decide (0 < (a3.L.length:Int))) false)) false) (!(cond a2 true false)) false)) ((Yt a3.E).bind fun y13=>some (cond (cond (!(cond a0 (a3.N != 0) false)) (!(cond a1 (decide (0 < (a3.L.length:Int))) false)) false) (!(cond a2 (cond (a3.E.Kind != 0) true (!y13)) false)) false))) (some (cond (cond (!(cond a0 (a3.N != 0) false)) (!(cond a1 (decide (0 < (a3.L.length:Int))) false)) false) true false))))).bind fun (z5:Bool)=>some z5
noncomputable def Zn:Nat→((Zc→Option Bool)×(Zc→Int→Option Bool)×((List Zl)→Int→Option Bool)×(Zc→Int→Option Bool)×(Int→Zj→Int→Option Bool)×(Bool→Bool→Bool→Zj→Option Bool))
 | 0=>((fun _=>none),(fun _ _=>none),(fun _ _=>none),(fun _ _=>none),(fun _ _ _=>none),(fun _ _ _ _=>none))
 | k+1=>(Ze5 ((Zn k).1) ((Zn k).2.1) ((Zn k).2.2.1) ((Zn k).2.2.2.1) ((Zn k).2.2.2.2.1) ((Zn k).2.2.2.2.2),Ze6 ((Zn k).1) ((Zn k).2.1) ((Zn k).2.2.1) ((Zn k).2.2.2.1) ((Zn k).2.2.2.2.1) ((Zn k).2.2.2.2.2),Zar ((Zn k).1) ((Zn k).2.1) ((Zn k).2.2.1) ((Zn k).2.2.2.1) ((Zn k).2.2.2.2.1) ((Zn k).2.2.2.2.2),Zbt ((Zn k).1) ((Zn k).2.1) ((Zn k).2.2.1) ((Zn k).2.2.2.1) ((Zn k).2.2.2.2.1) ((Zn k).2.2.2.2.2),Zcv ((Zn k).1) ((Zn k).2.1) ((Zn k).2.2.1) ((Zn k).2.2.2.1) ((Zn k).2.2.2.2.1) ((Zn k).2.2.2.2.2),Zas ((Zn k).1) ((Zn k).2.1) ((Zn k).2.2.1) ((Zn k).2.2.2.1) ((Zn k).2.2.2.2.1) ((Zn k).2.2.2.2.2))
noncomputable def Zkx (a0:Zc):Option Bool:=lim fun k=>(Zn k).1 a0
noncomputable def Zfj (a0:Zb) (a1:(List Zy)) (a2:Zc):Option (Zc×Bool) :=
 (Zhj a0 a1 a2).bind fun y2=>cond (!y2.2) (some ((⟨0,⟨0,[],[]⟩,⟨0,[],[]⟩,[],[],0,[]⟩:Zc),false)) ((Zgx y2.1).bind fun y4=>(Zkx y4).bind fun y6=>cond (!y6) (some ((⟨0,⟨0,[],[]⟩,⟨0,[],[]⟩,[],[],0,[]⟩:Zc),false)) (some (y4,true)))
noncomputable def Zbj (a0:Zl) (a1:Zy):Option Bool :=
 some (a0.At == a1.At)
noncomputable def Yb (a0:(List Zl)) (a1_0:Zy) (s0_:Int):Option (Int ⊕ (Int ⊕ Unit)) :=
 cond (decide (s0_ < (a0.length:Int))) ((Xp a0 s0_).bind fun x3=>(Zbj x3 a1_0).bind fun y4=>cond y4 (some (.inr (.inl s0_))) (some (.inl (IntKind.i64.wrap (s0_+1))))) (some (.inr (.inr ())))
noncomputable def Y0 (a0:(List Zl)) (a1_0:Zy):Option Int :=
 (Zx (Yb a0 a1_0) 0).bind fun (z7:(Int ⊕ Unit))=>match z7 with | .inl z7=>some z7 | .inr z7=>some (-1)
noncomputable def Ub (a0:(List Zj)) (a1:Int) (s0_:(Int×Int×Int)):Option ((Int×Int×Int) ⊕ ((Int×Bool×Int×Int×(List Int)×(List Zb)×Int×(List Int)×(List Zb)×(List Zs)×(List Zl)×Int×(List Zj)) ⊕ Unit)) :=
 cond (decide (s0_.2.2 < (a0.length:Int))) (((Xp a0 s0_.2.2).bind fun x3=>(cond (x3.Kind == 2) (some (.inr (.inl ()))) (cond (decide (a1 < (IntKind.i64.wrap (s0_.1+(if (if 1 < x3.N then x3.N else 1) < (x3.L.length:Int) then (x3.L.length:Int) else (if 1 < x3.N then x3.N else 1)))))) (some (.inr (.inr ()))) (cond (x3.Kind != 1) (some (.inl (IntKind.i64.wrap (s0_.2.1+(if (if 1 < x3.N then x3.N else 1) < (x3.L.length:Int) then (x3.L.length:Int) else (if 1 < x3.N then x3.N else 1)))))) (some (.inl s0_.2.1))))).bind fun (z4:(Int ⊕ (Unit ⊕ Unit)))=>match z4 with | .inl z4=>some (.inl ((IntKind.i64.wrap (s0_.1+(if (if 1 < x3.N then x3.N else 1) < (x3.L.length:Int) then (x3.L.length:Int) else (if 1 < x3.N then x3.N else 1)))),z4)) | .inr z4=>match z4 with | .inl z4=>some (.inl (s0_.1,(IntKind.i64.wrap (s0_.2.1+(if (if 1 < x3.N then x3.N else 1) < (x3.L.length:Int) then (x3.L.length:Int) else (if 1 < x3.N then x3.N else 1)))))) | .inr z4=>some (.inr ((x3.Kind != 1),x3.E.Kind,x3.E.Old.Kind,x3.E.Old.Words,x3.E.Old.Kids,x3.E.New.Kind,x3.E.New.Words,x3.E.New.Kids,x3.E.Words,x3.E.Kids,x3.E.List_,x3.E.Ops))).bind fun (z1:((Int×Int) ⊕ (Bool×Int×Int×(List Int)×(List Zb)×Int×(List Int)×(List Zb)×(List Zs)×(List Zl)×Int×(List Zj))))=>match z1 with | .inl z1=>some (.inl (z1.1,z1.2,(IntKind.i64.wrap (s0_.2.2+1)))) | .inr z1=>some (.inr (.inl ((IntKind.i64.wrap ((IntKind.i64.wrap (s0_.2.1+a1)) - s0_.1)),z1.1,z1.2.1,z1.2.2.1,z1.2.2.2.1,z1.2.2.2.2.1,z1.2.2.2.2.2.1,z1.2.2.2.2.2.2.1,z1.2.2.2.2.2.2.2.1,z1.2.2.2.2.2.2.2.2.1,z1.2.2.2.2.2.2.2.2.2.1,z1.2.2.2.2.2.2.2.2.2.2.1,z1.2.2.2.2.2.2.2.2.2.2.2)))) (some (.inr (.inr ())))
noncomputable def Zc6 (a0:(List Zj)) (a1:Int):Option (Zc×Int×Bool) :=
 (Zx (Ub a0 a1) (0,0,0)).bind fun (z9:((Int×Bool×Int×Int×(List Int)×(List Zb)×Int×(List Int)×(List Zb)×(List Zs)×(List Zl)×Int×(List Zj)) ⊕ Unit))=>match z9 with | .inl z9=>some ((⟨z9.2.2.1,⟨z9.2.2.2.1,z9.2.2.2.2.1,z9.2.2.2.2.2.1⟩,⟨z9.2.2.2.2.2.2.1,z9.2.2.2.2.2.2.2.1,z9.2.2.2.2.2.2.2.2.1⟩,z9.2.2.2.2.2.2.2.2.2.1,z9.2.2.2.2.2.2.2.2.2.2.1,z9.2.2.2.2.2.2.2.2.2.2.2.1,z9.2.2.2.2.2.2.2.2.2.2.2.2⟩:Zc),z9.1,z9.2.1) | .inr z9=>some ((⟨0,⟨0,[],[]⟩,⟨0,[],[]⟩,[],[],0,[]⟩:Zc),0,false)
noncomputable def Za0 (a0:Zc) (a1:Zy):Option (Zc×Int×Bool) :=
 cond (cond (a1.Kind != 0) true (decide (a1.At < 0))) (some ((⟨0,⟨0,[],[]⟩,⟨0,[],[]⟩,[],[],0,[]⟩:Zc),0,false)) (cond (a0.Kind == 0) (some ((⟨0,⟨0,[],[]⟩,⟨0,[],[]⟩,[],[],0,[]⟩:Zc),a1.At,true)) (cond (a0.Kind == 2) ((Y0 a0.Kids a1).bind fun y2=>cond (decide (y2 < 0)) (some ((⟨0,⟨0,[],[]⟩,⟨0,[],[]⟩,[],[],0,[]⟩:Zc),a1.At,true)) ((Xp a0.Kids y2).bind fun x5=>some (x5.E,a1.At,true))) (cond (a0.Kind == 3) ((Zc6 a0.Ops a1.At).bind fun y9=>some (y9.1,y9.2.1,y9.2.2)) (some ((⟨0,⟨0,[],[]⟩,⟨0,[],[]⟩,[],[],0,[]⟩:Zc),0,false)))))
noncomputable def Ua (a1:(List Zy)) (s0_:(Int×Int×Int×(List Int)×(List Zb)×Int×(List Int)×(List Zb)×(List Zs)×(List Zl)×Int×(List Zj)×(List Zy))):Option ((Int×Int×Int×(List Int)×(List Zb)×Int×(List Int)×(List Zb)×(List Zs)×(List Zl)×Int×(List Zj)×(List Zy)) ⊕ (Unit ⊕ (Int×Int×(List Int)×(List Zb)×Int×(List Int)×(List Zb)×(List Zs)×(List Zl)×Int×(List Zj)×(List Zy)))) :=
 cond (decide (s0_.1 < (a1.length:Int))) ((Xp a1 s0_.1).bind fun x2=>(Za0 (⟨s0_.2.1,⟨s0_.2.2.1,s0_.2.2.2.1,s0_.2.2.2.2.1⟩,⟨s0_.2.2.2.2.2.1,s0_.2.2.2.2.2.2.1,s0_.2.2.2.2.2.2.2.1⟩,s0_.2.2.2.2.2.2.2.2.1,s0_.2.2.2.2.2.2.2.2.2.1,s0_.2.2.2.2.2.2.2.2.2.2.1,s0_.2.2.2.2.2.2.2.2.2.2.2.1⟩:Zc) x2).bind fun y4=>cond (!y4.2.2) (some (.inr (.inl ()))) ((Zbe 16 s0_.2.2.2.2.2.2.2.2.2.2.2.2 ([(⟨0,y4.2.1⟩:Zy)]:List Zy)).bind fun l5=>some (.inl ((IntKind.i64.wrap (s0_.1+1)),y4.1.Kind,y4.1.Old.Kind,y4.1.Old.Words,y4.1.Old.Kids,y4.1.New.Kind,y4.1.New.Words,y4.1.New.Kids,y4.1.Words,y4.1.Kids,y4.1.List_,y4.1.Ops,l5)))) (some (.inr (.inr (s0_.2.1,s0_.2.2.1,s0_.2.2.2.1,s0_.2.2.2.2.1,s0_.2.2.2.2.2.1,s0_.2.2.2.2.2.2.1,s0_.2.2.2.2.2.2.2.1,s0_.2.2.2.2.2.2.2.2.1,s0_.2.2.2.2.2.2.2.2.2.1,s0_.2.2.2.2.2.2.2.2.2.2.1,s0_.2.2.2.2.2.2.2.2.2.2.2.1,s0_.2.2.2.2.2.2.2.2.2.2.2.2))))
noncomputable def Zaz (a0:Zc) (a1:(List Zy)):Option (Zc×(List Zy)×Bool) :=
 (Zx (Ua a1) (0,a0.Kind,a0.Old.Kind,a0.Old.Words,a0.Old.Kids,a0.New.Kind,a0.New.Words,a0.New.Kids,a0.Words,a0.Kids,a0.List_,a0.Ops,([]:List Zy))).bind fun (z8:(Unit ⊕ (Int×Int×(List Int)×(List Zb)×Int×(List Int)×(List Zb)×(List Zs)×(List Zl)×Int×(List Zj)×(List Zy))))=>match z8 with | .inl z8=>some ((⟨0,⟨0,[],[]⟩,⟨0,[],[]⟩,[],[],0,[]⟩:Zc),([]:(List Zy)),false) | .inr z8=>(Zgx (⟨z8.1,⟨z8.2.1,z8.2.2.1,z8.2.2.2.1⟩,⟨z8.2.2.2.2.1,z8.2.2.2.2.2.1,z8.2.2.2.2.2.2.1⟩,z8.2.2.2.2.2.2.2.1,z8.2.2.2.2.2.2.2.2.1,z8.2.2.2.2.2.2.2.2.2.1,z8.2.2.2.2.2.2.2.2.2.2.1⟩:Zc)).bind fun y10=>some (y10,z8.2.2.2.2.2.2.2.2.2.2.2,true)
noncomputable def J4 :Option Bool :=
 (Zfj (⟨8,[],([(⟨0,[],[]⟩:Zb),(⟨1,([1]:List Int),[]⟩:Zb),(⟨0,[],[]⟩:Zb)]:List Zb)⟩:Zb) ([(⟨0,1⟩:Zy)]:List Zy) (⟨2,⟨0,[],[]⟩,⟨0,[],[]⟩,([(⟨0,1,1,2⟩:Zs)]:List Zs),[],0,[]⟩:Zc)).bind fun y2=>(Zaz y2.1 ([(⟨0,1⟩:Zy)]:List Zy)).bind fun y4=>(cond y2.2 (cond y4.2.2 (cond (y2.1.Kind == 3) (cond ((y2.1.Ops.length:Int) == 3) ((Xp y2.1.Ops 1).bind fun x14=>cond (x14.Kind == 3) (cond (y4.1.Kind == 2) (cond ((y4.2.1.length:Int) == 1) ((Xp y4.2.1 0).bind fun x16=>some (cond (cond (cond (cond (cond (cond (cond y2.2 y4.2.2 false) (y2.1.Kind == 3) false) ((y2.1.Ops.length:Int) == 3) false) (x14.Kind == 3) false) (y4.1.Kind == 2) false) ((y4.2.1.length:Int) == 1) false) (x16.At == 1) false)) (some false)) (some false)) (some false)) (some false)) (some false)) (some false)) (some false)).bind fun (z9:Bool)=>some z9
noncomputable def X7 (a0:(List Int)) (a1:(List Int)) (s0_:Int):Option (Int ⊕ (Unit ⊕ Unit)) :=
 cond (decide (s0_ < (a0.length:Int))) ((Xp a0 s0_).bind fun x3=>(Xp a1 s0_).bind fun x4=>cond (x3 != x4) (some (.inr (.inl ()))) (some (.inl (IntKind.i64.wrap (s0_+1))))) (some (.inr (.inr ())))
noncomputable def Xw (a0:(List Int)) (a1:(List Int)):Option Bool :=
 cond ((a0.length:Int) != (a1.length:Int)) (some false) ((Zx (X7 a0 a1) 0).bind fun (z7:(Unit ⊕ Unit))=>match z7 with | .inl z7=>some false | .inr z7=>some true)
noncomputable def Ze7 (Jz:(Zb→Zb→Option Bool)) (Zt:((List Zb)→(List Zb)→Option Bool)) (a0:Zb) (a1:Zb):Option Bool :=
 cond (a0.Kind != a1.Kind) (some false) (cond (a0.Kind == 0) (some true) (cond (a0.Kind == 1) (((Vl a0.Words).bind fun y14=>(Vl a1.Words).bind fun y15=>(Xw y14 y15).bind fun y16=>cond y16 ((Uh a0.Kids).bind fun y17=>(Uh a1.Kids).bind fun y18=>(Zt y17 y18).bind fun y19=>some (cond y16 y19 false)) (some false)).bind fun (z7:Bool)=>some z7) (((Xw a0.Words a1.Words).bind fun y26=>cond y26 ((Zt a0.Kids a1.Kids).bind fun y27=>some (cond y26 y27 false)) (some false)).bind fun (z23:Bool)=>some z23)))
noncomputable def Z8 (Jz:(Zb→Zb→Option Bool)) (a0:(List Zb)) (a1:(List Zb)) (s0_:Int):Option (Int ⊕ (Unit ⊕ Unit)) :=
 cond (decide (s0_ < (a0.length:Int))) ((Xp a0 s0_).bind fun x2=>(Xp a1 s0_).bind fun x4=>(Jz x2 x4).bind fun y6=>cond (!y6) (some (.inr (.inl ()))) (some (.inl (IntKind.i64.wrap (s0_+1))))) (some (.inr (.inr ())))
noncomputable def Ye (Jz:(Zb→Zb→Option Bool)) (Zt:((List Zb)→(List Zb)→Option Bool)) (a0:(List Zb)) (a1:(List Zb)):Option Bool :=
 cond ((a0.length:Int) != (a1.length:Int)) (some false) ((Zx (Z8 Jz a0 a1) 0).bind fun (z9:(Unit ⊕ Unit))=>match z9 with | .inl z9=>some false | .inr z9=>some true)
noncomputable def Xu:Nat→((Zb→Zb→Option Bool)×((List Zb)→(List Zb)→Option Bool))
 | 0=>((fun _ _=>none),(fun _ _=>none))
 | k+1=>(Ze7 ((Xu k).1) ((Xu k).2),Ye ((Xu k).1) ((Xu k).2))
noncomputable def Zky (a0:Zb) (a1:Zb):Option Bool:=lim fun k=>(Xu k).1 a0 a1
noncomputable def Xi (a0:(List Zb)) (a1:(List Zb)):Option Bool:=lim fun k=>(Xu k).2 a0 a1
noncomputable def Ug (a0:List Int):Option (List Int) :=
 Zbe 8 ([]:List Int) a0
noncomputable def Kv (a0:List Zb):Option (List Zb) :=
 Zbe 56 ([]:List Zb) a0
noncomputable def Zg9 (a0:Zb) (a1:Int):Option Int :=
 cond (cond (decide (a1 < 0)) true (decide ((a0.Words.length:Int)≤a1))) (some 0) ((Xp a0.Words a1).bind fun x2=>some x2)
noncomputable def Gm (a0:Int):Option Bool :=
 some (cond (decide (a0 < 0)) true (decide (65534 < a0)))
noncomputable def Zgd (a0:Int) (a1:Int) (a2:Int):Option Int :=
 (Zad a2).bind fun y2=>some (IntKind.u64.wrap (Zu2 .u64 (IntKind.u64.wrap (Zx7 .u64 a0 y2)) (IntKind.u64.wrap (Zez .u64 a1 y2))))
noncomputable def Gb (a1:Int) (a2:Int) (s0_:(List Int)):Option ((List Int) ⊕ (List Int)) :=
 cond (cond (decide ((s0_.length:Int)≤a1)) (a2 != 0) false) ((Zbe 8 s0_ ([0]:List Int)).bind fun l1=>some (.inl l1)) (some (.inr s0_))
noncomputable def Zby (a0:Zb) (a1:Int) (a2:Int):Option Zb :=
 (Zx (Gb a1 a2) a0.Words).bind fun (z3:(List Int))=>cond (decide (a1 < (z3.length:Int))) ((Xp z3 a1).bind fun x4=>some (⟨a0.Kind,(Zgm z3 a1 a2),a0.Kids⟩:Zb)) (some (⟨a0.Kind,z3,a0.Kids⟩:Zb))
noncomputable def G4 (a1:Int) (a2:Zb) (s0_:(List Zb)):Option ((List Zb) ⊕ (List Zb)) :=
 cond (cond (decide ((s0_.length:Int)≤a1)) (a2.Kind != 0) false) ((Zbe 56 s0_ ([(⟨0,[],[]⟩:Zb)]:List Zb)).bind fun l1=>(Xp l1 (s0_.length:Int)).bind fun x2=>some (.inl (s0_++[(⟨0,[],[]⟩:Zb)]))) (some (.inr s0_))
noncomputable def Zc4 (a0:Zb) (a1:Int) (a2:Zb):Option Zb :=
 (Zx (G4 a1 a2) a0.Kids).bind fun (z5:(List Zb))=>cond (decide (a1 < (z5.length:Int))) ((Xp z5 a1).bind fun x6=>some (⟨a0.Kind,a0.Words,(Zgm z5 a1 a2)⟩:Zb)) (some (⟨a0.Kind,a0.Words,z5⟩:Zb))
structure Zh where
 left:(List Zb)
 out:(List Zb)
noncomputable def Gv (Y7:(Zc→Zb→Option (Zb×Bool))) (Yd:(Zc→Zb→Option (Zb×Bool))) (Xg:(Zc→Zb→Option (Zb×Bool))) (Z3:(Zh→Zj→Option (Bool×Zh))) (Z0:(Zh→Zc→Option (Bool×Zh))) (a0:Zc) (a1:Zb):Option (Zb×Bool) :=
 cond (a0.Kind == 0) (some (a1,true)) (cond (a0.Kind == 1) ((Zky a1 a0.Old).bind fun y2=>some (a0.New,y2)) (cond (a0.Kind == 2) ((Yd a0 a1).bind fun y4=>some (y4.1,y4.2)) (cond (a0.Kind == 3) ((Xg a0 a1).bind fun y6=>some (y6.1,y6.2)) (some ((⟨0,[],[]⟩:Zb),false)))))
noncomputable def Qz (a0:Zc) (a1:Zb) (s0_:(Int×Int×(List Int)×(List Zb))):Option ((Int×Int×(List Int)×(List Zb)) ⊕ (Unit ⊕ (Int×(List Int)×(List Zb)))) :=
 cond (decide (s0_.1 < (a0.Words.length:Int))) ((Xp a0.Words s0_.1).bind fun x110=>(Zg9 a1 x110.At).bind fun y112=>((Gm x110.At).bind fun y118=>cond y118 (some true) ((Zad x110.Mask).bind fun y119=>some (cond y118 true ((IntKind.u64.wrap (Zez .u64 (IntKind.u64.wrap (Zg8 .u64 y112 x110.Old)) y119)) != 0)))).bind fun (z115:Bool)=>cond z115 (some (.inr (.inl ()))) ((Zgd y112 x110.New x110.Mask).bind fun y121=>(Zby (⟨s0_.2.1,s0_.2.2.1,s0_.2.2.2⟩:Zb) x110.At y121).bind fun y122=>some (.inl ((IntKind.i64.wrap (s0_.1+1)),y122.Kind,y122.Words,y122.Kids)))) (some (.inr (.inr (s0_.2.1,s0_.2.2.1,s0_.2.2.2))))
noncomputable def Qe (Y7:(Zc→Zb→Option (Zb×Bool))) (a0:Zc) (a1:Zb) (s1_:(Int×Int×(List Int)×(List Zb))):Option ((Int×Int×(List Int)×(List Zb)) ⊕ (Unit ⊕ (Int×(List Int)×(List Zb)))) :=
 cond (decide (s1_.1 < (a0.Kids.length:Int))) ((Xp a0.Kids s1_.1).bind fun x127=>(Zgc a1 x127.At).bind fun y130=>(Y7 x127.E y130).bind fun y131=>(Gm x127.At).bind fun y133=>cond (cond y133 true (!y131.2)) (some (.inr (.inl ()))) ((Zc4 (⟨s1_.2.1,s1_.2.2.1,s1_.2.2.2⟩:Zb) x127.At y131.1).bind fun y134=>some (.inl ((IntKind.i64.wrap (s1_.1+1)),y134.Kind,y134.Words,y134.Kids)))) (some (.inr (.inr (s1_.2.1,s1_.2.2.1,s1_.2.2.2))))
noncomputable def V6 (Y7:(Zc→Zb→Option (Zb×Bool))) (Yd:(Zc→Zb→Option (Zb×Bool))) (Xg:(Zc→Zb→Option (Zb×Bool))) (Z3:(Zh→Zj→Option (Bool×Zh))) (Z0:(Zh→Zc→Option (Bool×Zh))) (a0:Zc) (a1:Zb):Option (Zb×Bool) :=
 cond (a1.Kind != 1) (some ((⟨0,[],[]⟩:Zb),false)) ((Ug a1.Words).bind fun y25=>(Kv a1.Kids).bind fun y61=>(Zx (Qz a0 a1) (0,1,y25,y61)).bind fun (z125:(Unit ⊕ (Int×(List Int)×(List Zb))))=>match z125 with | .inl z125=>some ((⟨0,[],[]⟩:Zb),false) | .inr z125=>(Zx (Qe Y7 a0 a1) (0,z125.1,z125.2.1,z125.2.2)).bind fun (z137:(Unit ⊕ (Int×(List Int)×(List Zb))))=>match z137 with | .inl z137=>some ((⟨0,[],[]⟩:Zb),false) | .inr z137=>some ((⟨z137.1,z137.2.1,z137.2.2⟩:Zb),true))
noncomputable def K3 (Z3:(Zh→Zj→Option (Bool×Zh))) (a0:Zc) (s0_:(Int×(List Zb)×(List Zb))):Option ((Int×(List Zb)×(List Zb)) ⊕ (Unit ⊕ ((List Zb)×(List Zb)))) :=
 cond (decide (s0_.1 < (a0.Ops.length:Int))) ((Xp a0.Ops s0_.1).bind fun x7=>(Z3 (⟨s0_.2.1,s0_.2.2⟩:Zh) x7).bind fun y9=>cond (!y9.1) (some (.inr (.inl ()))) (some (.inl ((IntKind.i64.wrap (s0_.1+1)),y9.2.left,y9.2.out)))) (some (.inr (.inr (s0_.2.1,s0_.2.2))))
noncomputable def Zdu (Y7:(Zc→Zb→Option (Zb×Bool))) (Yd:(Zc→Zb→Option (Zb×Bool))) (Xg:(Zc→Zb→Option (Zb×Bool))) (Z3:(Zh→Zj→Option (Bool×Zh))) (Z0:(Zh→Zc→Option (Bool×Zh))) (a0:Zc) (a1:Zb):Option (Zb×Bool) :=
 (cond (a1.Kind != a0.List_) (some true) ((Zab a1.Kind).bind fun y4=>some (cond (a1.Kind != a0.List_) true (!y4)))).bind fun (z2:Bool)=>cond z2 (some ((⟨0,[],[]⟩:Zb),false)) ((Zx (K3 Z3 a0) (0,a1.Kids,([]:List Zb))).bind fun (z12:(Unit ⊕ ((List Zb)×(List Zb))))=>match z12 with | .inl z12=>some ((⟨0,[],[]⟩:Zb),false) | .inr z12=>some ((⟨a1.Kind,[],z12.2⟩:Zb),((z12.1.length:Int) == 0)))
noncomputable def Ul (Y7:(Zc→Zb→Option (Zb×Bool))) (Yd:(Zc→Zb→Option (Zb×Bool))) (Xg:(Zc→Zb→Option (Zb×Bool))) (Z3:(Zh→Zj→Option (Bool×Zh))) (Z0:(Zh→Zc→Option (Bool×Zh))) (a0:Zh) (a1:Zj):Option (Bool×Zh) :=
 cond (a1.Kind == 0) ((cond (decide (a1.N < 0)) (some true) (some (cond (decide (a1.N < 0)) true (decide ((a0.left.length:Int) < a1.N))))).bind fun (z1:Bool)=>cond z1 (some (false,(⟨a0.left,a0.out⟩:Zh))) ((Zd1 a0.left 0 a1.N).bind fun l5=>(Zbe 56 a0.out l5).bind fun l6=>(Zd1 a0.left a1.N (a0.left.length:Int)).bind fun l8=>some (true,(⟨l8,l6⟩:Zh)))) (cond (a1.Kind == 1) ((cond (decide ((a0.left.length:Int) < (a1.L.length:Int))) (some true) ((Zd1 a0.left 0 (a1.L.length:Int)).bind fun l15=>(Xi l15 a1.L).bind fun y16=>some (cond (decide ((a0.left.length:Int) < (a1.L.length:Int))) true (!y16)))).bind fun (z12:Bool)=>cond z12 (some (false,(⟨a0.left,a0.out⟩:Zh))) ((Zd1 a0.left (a1.L.length:Int) (a0.left.length:Int)).bind fun l19=>some (true,(⟨l19,a0.out⟩:Zh)))) (cond (a1.Kind == 2) ((Zbe 56 a0.out a1.L).bind fun l22=>some (true,(⟨a0.left,l22⟩:Zh))) (cond (a1.Kind == 3) ((Z0 (⟨a0.left,a0.out⟩:Zh) a1.E).bind fun y24=>some (y24.1,(⟨y24.2.left,y24.2.out⟩:Zh))) (some (false,(⟨a0.left,a0.out⟩:Zh))))))
noncomputable def Kr (Y7:(Zc→Zb→Option (Zb×Bool))) (Yd:(Zc→Zb→Option (Zb×Bool))) (Xg:(Zc→Zb→Option (Zb×Bool))) (Z3:(Zh→Zj→Option (Bool×Zh))) (Z0:(Zh→Zc→Option (Bool×Zh))) (a0:Zh) (a1:Zc):Option (Bool×Zh) :=
 cond ((a0.left.length:Int) == 0) (some (false,(⟨a0.left,a0.out⟩:Zh))) ((Xp a0.left 0).bind fun x3=>(Y7 a1 x3).bind fun y4=>(Zbe 56 a0.out ([(⟨0,[],[]⟩:Zb)]:List Zb)).bind fun l8=>(Xp l8 (a0.out.length:Int)).bind fun x9=>(Zd1 a0.left 1 (a0.left.length:Int)).bind fun l12=>some (y4.2,(⟨l12,(a0.out++[y4.1])⟩:Zh)))
noncomputable def Zr:Nat→((Zc→Zb→Option (Zb×Bool))×(Zc→Zb→Option (Zb×Bool))×(Zc→Zb→Option (Zb×Bool))×(Zh→Zj→Option (Bool×Zh))×(Zh→Zc→Option (Bool×Zh)))
 | 0=>((fun _ _=>none),(fun _ _=>none),(fun _ _=>none),(fun _ _=>none),(fun _ _=>none))
 | k+1=>(Gv ((Zr k).1) ((Zr k).2.1) ((Zr k).2.2.1) ((Zr k).2.2.2.1) ((Zr k).2.2.2.2),V6 ((Zr k).1) ((Zr k).2.1) ((Zr k).2.2.1) ((Zr k).2.2.2.1) ((Zr k).2.2.2.2),Zdu ((Zr k).1) ((Zr k).2.1) ((Zr k).2.2.1) ((Zr k).2.2.2.1) ((Zr k).2.2.2.2),Ul ((Zr k).1) ((Zr k).2.1) ((Zr k).2.2.1) ((Zr k).2.2.2.1) ((Zr k).2.2.2.2),Kr ((Zr k).1) ((Zr k).2.1) ((Zr k).2.2.1) ((Zr k).2.2.2.1) ((Zr k).2.2.2.2))
noncomputable def Zkw (a0:Zc) (a1:Zb):Option (Zb×Bool):=lim fun k=>(Zr k).1 a0 a1
noncomputable def G3 (a0:Zc) (a1:Zb):Option (Zb×Bool) :=
 (Zkw a0 a1).bind fun y2=>cond (!y2.2) (some ((⟨0,[],[]⟩:Zb),false)) ((Za6 y2.1).bind fun y4=>some (y4,true))
noncomputable def Vy (a0:(List Int)) (s0_:Int):Option (Int ⊕ Int) :=
 (cond (decide (0 < s0_)) ((Xp a0 (IntKind.i64.wrap (s0_ - 1))).bind fun x4=>some (cond (decide (0 < s0_)) (x4 == 0) false)) (some false)).bind fun (z2:Bool)=>cond z2 (some (.inl (IntKind.i64.wrap (s0_ - 1)))) (some (.inr s0_))
noncomputable def G7 (a0:(List Int)):Option (List Int) :=
 (Zx (Vy a0) (a0.length:Int)).bind fun (z7:Int)=>(Zd1 a0 0 z7).bind fun l10=>(Zbe 8 ([]:List Int) l10).bind fun l11=>some l11
noncomputable def Q0 (Ji:(Zb→Option Zb)) (a0:Zb) (s0_:(Int×Int×(List Zb))):Option ((Int×Int×(List Zb)) ⊕ (Int×(List Zb))) :=
 cond (decide (s0_.2.1 < (a0.Kids.length:Int))) (((Xp a0.Kids s0_.2.1).bind fun x4=>(Ji x4).bind fun y5=>(Zbe 56 s0_.2.2 ([y5]:List Zb)).bind fun l7=>cond (y5.Kind != 0) (some ((IntKind.i64.wrap (s0_.2.1+1)),l7)) (some (s0_.1,l7))).bind fun (z1:(Int×(List Zb)))=>some (.inl (z1.1,(IntKind.i64.wrap (s0_.2.1+1)),z1.2))) (some (.inr (s0_.1,s0_.2.2)))
noncomputable def Gw (Ji:(Zb→Option Zb)) (a0:Zb):Option Zb :=
 cond (a0.Kind == 0) (some (⟨0,[],[]⟩:Zb)) ((Zx (Q0 Ji a0) (0,0,([]:List Zb))).bind fun (z10:(Int×(List Zb)))=>cond (a0.Kind == 1) ((G7 a0.Words).bind fun y14=>(Zd1 z10.2 0 z10.1).bind fun l15=>some (⟨1,y14,l15⟩:Zb)) ((Zbe 8 ([]:List Int) a0.Words).bind fun l17=>some (⟨a0.Kind,l17,z10.2⟩:Zb)))
noncomputable def X5:Nat→(Zb→Option Zb)
 | 0=>(fun _=>none)
 | k+1=>Gw ((X5 k))
noncomputable def Zfh (a0:Zb):Option Zb:=lim fun k=>(X5 k) a0
noncomputable def Vg (Vq:(Zb→(List Zy)→Option (Zb×Bool))) (a0:Zb) (a1:(List Zy)):Option (Zb×Bool) :=
 cond ((a1.length:Int) == 0) ((Zfh a0).bind fun y2=>some (y2,true)) ((Xp a1 0).bind fun x4=>cond (cond (decide (x4.At < 0)) true (cond (a0.Kind == 1) (decide (65535≤x4.At)) false)) (some ((⟨0,[],[]⟩:Zb),false)) ((cond (x4.Kind == 0) (cond (decide (x4.At < (a0.Kids.length:Int))) ((Xp a0.Kids x4.At).bind fun x9=>(Zd1 a1 1 (a1.length:Int)).bind fun l10=>(Vq x9 l10).bind fun y11=>some (.inr (y11.2,y11.1.Kind,y11.1.Words,y11.1.Kids))) (cond (a0.Kind == 1) ((Zd1 a1 1 (a1.length:Int)).bind fun l14=>(Vq (⟨0,[],[]⟩:Zb) l14).bind fun y15=>some (.inr (y15.2,y15.1.Kind,y15.1.Words,y15.1.Kids))) (some (.inl ())))) (cond (x4.Kind == 1) (cond (cond ((a1.length:Int) == 1) (a0.Kind == 1) false) (((cond (decide (x4.At < (a0.Words.length:Int))) ((Xp a0.Words x4.At).bind fun x22=>some (cond (decide (x4.At < (a0.Words.length:Int))) (x22 != 0) false)) (some false)).bind fun (z20:Bool)=>cond z20 ((Xp a0.Words x4.At).bind fun x24=>some ([x24]:List Int)) (some ([]:List Int))).bind fun (z18:(List Int))=>some (.inr (true,1,z18,([]:(List Zb))))) (some (.inl ()))) (cond (x4.Kind == 2) (cond (cond (cond ((a1.length:Int) == 1) (cond (decide (2≤a0.Kind)) (decide (a0.Kind≤9)) false) false) (decide (x4.At≤(a0.Kids.length:Int))) false) (some (.inr (true,a0.Kind,([]:(List Int)),([]:(List Zb))))) (some (.inl ()))) (some (.inl ()))))).bind fun (z5:(Unit ⊕ (Bool×Int×(List Int)×(List Zb))))=>match z5 with | .inl z5=>some ((⟨0,[],[]⟩:Zb),false) | .inr z5=>some ((⟨z5.2.1,z5.2.2.1,z5.2.2.2⟩:Zb),z5.1)))
noncomputable def Ku:Nat→(Zb→(List Zy)→Option (Zb×Bool))
 | 0=>(fun _ _=>none)
 | k+1=>Vg ((Ku k))
noncomputable def Zdy (a0:Zb) (a1:(List Zy)):Option (Zb×Bool):=lim fun k=>(Ku k) a0 a1
noncomputable def Vx (a0:(List Int)) (a1:(List Int)) (s0_:Int):Option (Int ⊕ (Unit ⊕ Unit)) :=
 cond (decide (s0_ < (a0.length:Int))) ((Xp a0 s0_).bind fun x3=>(Xp a1 s0_).bind fun x4=>cond (x3 != x4) (some (.inr (.inl ()))) (some (.inl (IntKind.i64.wrap (s0_+1))))) (some (.inr (.inr ())))
noncomputable def G5 (a0:(List Int)) (a1:(List Int)):Option Bool :=
 cond ((a0.length:Int) != (a1.length:Int)) (some false) ((Zx (Vx a0 a1) 0).bind fun (z7:(Unit ⊕ Unit))=>match z7 with | .inl z7=>some false | .inr z7=>some true)
noncomputable def Vv (Jj:(Zb→Zb→Option Bool)) (a0:Zb) (a1:Zb) (s0_:Int):Option (Int ⊕ (Unit ⊕ Unit)) :=
 cond (decide (s0_ < (a0.Kids.length:Int))) ((Xp a0.Kids s0_).bind fun x9=>(Xp a1.Kids s0_).bind fun x10=>(Jj x9 x10).bind fun y11=>cond (!y11) (some (.inr (.inl ()))) (some (.inl (IntKind.i64.wrap (s0_+1))))) (some (.inr (.inr ())))
noncomputable def Gx (Jj:(Zb→Zb→Option Bool)) (a0:Zb) (a1:Zb):Option Bool :=
 (cond (a0.Kind != a1.Kind) (some true) ((G5 a0.Words a1.Words).bind fun y4=>some (cond (cond (a0.Kind != a1.Kind) true (!y4)) true ((a0.Kids.length:Int) != (a1.Kids.length:Int))))).bind fun (z2:Bool)=>cond z2 (some false) ((Zx (Vv Jj a0 a1) 0).bind fun (z14:(Unit ⊕ Unit))=>match z14 with | .inl z14=>some false | .inr z14=>some true)
noncomputable def J3:Nat→(Zb→Zb→Option Bool)
 | 0=>(fun _ _=>none)
 | k+1=>Gx ((J3 k))
noncomputable def Zfi (a0:Zb) (a1:Zb):Option Bool:=lim fun k=>(J3 k) a0 a1
noncomputable def Us (a0:Zc) (a1:Zb) (a2:(List Zy)):Option Bool :=
 ((V7 a1).bind fun y6=>cond y6 ((G8 a0).bind fun y7=>some (cond (cond (!y6) true (!y7)) true (decide (70 < (a2.length:Int))))) (some true)).bind fun (z3:Bool)=>cond z3 ((J4).bind fun y10=>some y10) ((G3 a0 a1).bind fun y12=>(Zaz a0 a2).bind fun y14=>(Zdy a1 a2).bind fun y16=>(cond y12.2 (cond y14.2.2 (cond y16.2 ((V7 y12.1).bind fun y20=>some (cond (cond (cond (cond (!y12.2) true (!y14.2.2)) true (!y16.2)) true (!y20)) true (y16.1.Kind == 10))) (some true)) (some true)) (some true)).bind fun (z18:Bool)=>cond z18 ((J4).bind fun y25=>some y25) ((Zdy y12.1 y14.2.1).bind fun y27=>(G3 y14.1 y16.1).bind fun y29=>(cond y27.2 (cond y29.2 ((Zfi y27.1 y29.1).bind fun y35=>cond y35 ((J4).bind fun y36=>some (cond (cond (cond y27.2 y29.2 false) y35 false) y36 false)) (some false)) (some false)) (some false)).bind fun (z32:Bool)=>some z32))
mutual
def Zai:Zb→List G
 | ⟨f0,f1,f2⟩=>[.val (.int .i64 f0),.sl f1.length (fl (eI .u64) f1),.sl f2.length (Zaj f2)]
def Zaj:List Zb→List G
 | []=>[]
 | x::xs=>Zai x++Zaj xs
end
theorem Zj5:∀ xs,Zaj xs=fl Zai xs
 | []=>by simp [Zaj,fl]
 | x::xs=>by rw [Zaj,Gz,Zj5 xs]
def Za (x:Zb):List G:=[.val (.int .i64 x.Kind),.sl x.Words.length (fl (eI .u64) x.Words),.sl x.Kids.length (fl Zai x.Kids)]
theorem Yu:Zai=Za:=by
 funext x
 obtain ⟨_,_,_⟩:=x
 simp only [Zai,Zj5,Za,List.cons_append,List.nil_append,List.append_nil]
mutual
theorem Zis:∀ x,G.pures (Zai x)=true
 | ⟨f0,f1,f2⟩=>by simp [Zai,eP,K8,eI,eB,eS,eL,G.pures,G.pure,Zcb,Yf,Zlj f2]
theorem Zlj:∀ xs,G.pures (Zaj xs)=true
 | []=>rfl
 | x::xs=>by simp [Zaj,Zcb,Zis x,Zlj xs]
end
theorem Zit:∀ x,G.pures (Za x)=true:=fun x=>by rw [← Yu];exact Zis x
theorem Kc:∀ x,G.pures ((eI .u64) x)=true:=fun x=>by simp [eI,eB,eS,eL,eP,G.pures,G.pure,Yf,K8,Yu]
theorem Zpk {O O':Objs} {n:Nat} (xs:List Int):wkl O O' n (fl (eI .u64) xs) (fl (eI .u64) xs):=Zeg (Yf Kc xs)
theorem Zpi {O O':Objs} {n:Nat} (xs:List Int) (b b':List G):wkl O O' n (fl (eI .u64) xs++b) (fl (eI .u64) xs++b')=wkl O O' n b b':=Zdq b b' _ (Yf Kc xs)
theorem Zoo (xs:List Int):(fl (eI .u64) xs).length=xs.length * 1:=Jo (f:=(eI .u64)) (k:=1) (fun _=>rfl) xs
theorem Zo0 (xs:List Int):(fl (eI .u64) xs).all G.one=true:=Uy (fun x=>by simp [eI,eB,eS,eL,eP,Zgj,G.one,Value.oneCell']) xs
theorem Zpm {O O':Objs} {n:Nat} (x:Option Int):wk O O' n (gP (eI .u64) x) (gP (eI .u64) x)=True:=Zn2 Kc x
theorem Zm0 {k:Nat} (x:Option Int):(gP (eI .u64) x).under k=true:=Zdj Kc k x
theorem Zms {ρ:Nat→Nat} (xs:List Int):G.rens ρ (fl (eI .u64) xs)=fl (eI .u64) xs:=K2 ρ _ (Yf Kc xs)
theorem Zmq {ρ:Nat→Nat} (x:Option Int):(gP (eI .u64) x).ren ρ=gP (eI .u64) x:=Zb7 ρ _ (K8 Kc x)
theorem Zpf {k:Nat} (xs:List Int):G.unders k (fl (eI .u64) xs)=true:=X3 _ _ (Yf Kc xs)
theorem Xf:∀ x,G.pures (Za x)=true:=fun x=>by rw [← Yu];exact Zis x
theorem Zgu {O O':Objs} {n:Nat} (xs:List Zb):wkl O O' n (fl Za xs) (fl Za xs):=Zeg (Yf Xf xs)
theorem Zgs {O O':Objs} {n:Nat} (xs:List Zb) (b b':List G):wkl O O' n (fl Za xs++b) (fl Za xs++b')=wkl O O' n b b':=Zdq b b' _ (Yf Xf xs)
theorem Zga (xs:List Zb):(fl Za xs).length=xs.length * 3:=Jo (f:=Za) (k:=3) (fun _=>rfl) xs
theorem Zgi (xs:List Zb):(fl Za xs).all G.one=true:=Uy (fun x=>by simp [eI,eB,eS,eL,eP,Zgj,G.one,Value.oneCell',Za]) xs
theorem Zgw {O O':Objs} {n:Nat} (x:Option Zb):wk O O' n (gP Za x) (gP Za x)=True:=Zn2 Xf x
theorem Zfy {k:Nat} (x:Option Zb):(gP Za x).under k=true:=Zdj Xf k x
theorem Zfr {ρ:Nat→Nat} (xs:List Zb):G.rens ρ (fl Za xs)=fl Za xs:=K2 ρ _ (Yf Xf xs)
theorem Zfp {ρ:Nat→Nat} (x:Option Zb):(gP Za x).ren ρ=gP Za x:=Zb7 ρ _ (K8 Xf x)
theorem Zgp {k:Nat} (xs:List Zb):G.unders k (fl Za xs)=true:=X3 _ _ (Yf Xf xs)
def Zm (x:Zs):List G:=[.val (.int .i64 x.At),.val (.int .u8 x.Mask),.val (.int .u64 x.Old),.val (.int .u64 x.New)]
mutual
def Ko:Zc→List G
 | ⟨f0,f1,f2,f3,f4,f5,f6⟩=>[.val (.int .i64 f0),.val (.int .i64 f1.Kind),.sl f1.Words.length (fl (eI .u64) f1.Words),.sl f1.Kids.length (fl Za f1.Kids),.val (.int .i64 f2.Kind),.sl f2.Words.length (fl (eI .u64) f2.Words),.sl f2.Kids.length (fl Za f2.Kids),.sl f3.length (fl Zm f3),.sl f4.length (Vh f4),.val (.int .i64 f5),.sl f6.length (Zcy f6)]
def Zb8:List Zc→List G
 | []=>[]
 | x::xs=>Ko x++Zb8 xs
def Vw:Zj→List G
 | ⟨f0,f1,f2,f3⟩=>[.val (.int .i64 f0),.val (.int .i64 f1),.sl f2.length (fl Za f2)]++Ko f3
def Zcy:List Zj→List G
 | []=>[]
 | x::xs=>Vw x++Zcy xs
def Qa:Zl→List G
 | ⟨f0,f1⟩=>[.val (.int .i64 f0)]++Ko f1
def Vh:List Zl→List G
 | []=>[]
 | x::xs=>Qa x++Vh xs
end
theorem Zdx:∀ xs,Zb8 xs=fl Ko xs
 | []=>by simp [Zb8,fl]
 | x::xs=>by rw [Zb8,Gz,Zdx xs]
theorem Zfb:∀ xs,Zcy xs=fl Vw xs
 | []=>by simp [Zcy,fl]
 | x::xs=>by rw [Zcy,Gz,Zfb xs]
theorem Zaq:∀ xs,Vh xs=fl Qa xs
 | []=>by simp [Vh,fl]
 | x::xs=>by rw [Vh,Gz,Zaq xs]
def Qt (x:Zc):List G:=[.val (.int .i64 x.Kind),.val (.int .i64 x.Old.Kind),.sl x.Old.Words.length (fl (eI .u64) x.Old.Words),.sl x.Old.Kids.length (fl Za x.Old.Kids),.val (.int .i64 x.New.Kind),.sl x.New.Words.length (fl (eI .u64) x.New.Words),.sl x.New.Kids.length (fl Za x.New.Kids),.sl x.Words.length (fl Zm x.Words),.sl x.Kids.length (fl Qa x.Kids),.val (.int .i64 x.List_),.sl x.Ops.length (fl Vw x.Ops)]
def Ze (x:Zj):List G:=[.val (.int .i64 x.Kind),.val (.int .i64 x.N),.sl x.L.length (fl Za x.L),.val (.int .i64 x.E.Kind),.val (.int .i64 x.E.Old.Kind),.sl x.E.Old.Words.length (fl (eI .u64) x.E.Old.Words),.sl x.E.Old.Kids.length (fl Za x.E.Old.Kids),.val (.int .i64 x.E.New.Kind),.sl x.E.New.Words.length (fl (eI .u64) x.E.New.Words),.sl x.E.New.Kids.length (fl Za x.E.New.Kids),.sl x.E.Words.length (fl Zm x.E.Words),.sl x.E.Kids.length (fl Qa x.E.Kids),.val (.int .i64 x.E.List_),.sl x.E.Ops.length (fl Vw x.E.Ops)]
def Zi (x:Zl):List G:=[.val (.int .i64 x.At),.val (.int .i64 x.E.Kind),.val (.int .i64 x.E.Old.Kind),.sl x.E.Old.Words.length (fl (eI .u64) x.E.Old.Words),.sl x.E.Old.Kids.length (fl Za x.E.Old.Kids),.val (.int .i64 x.E.New.Kind),.sl x.E.New.Words.length (fl (eI .u64) x.E.New.Words),.sl x.E.New.Kids.length (fl Za x.E.New.Kids),.sl x.E.Words.length (fl Zm x.E.Words),.sl x.E.Kids.length (fl Qa x.E.Kids),.val (.int .i64 x.E.List_),.sl x.E.Ops.length (fl Vw x.E.Ops)]
theorem Xs:Ko=Qt:=by
 funext x
 obtain ⟨_,_,_,_,_,_,_⟩:=x
 simp only [Ko,Zdx,Vw,Zfb,Qa,Zaq,Qt,List.cons_append,List.nil_append,List.append_nil]
theorem Xz:Vw=Ze:=by
 funext x
 obtain ⟨_,_,_,⟨_,_,_,_,_,_,_⟩⟩:=x
 simp only [Ko,Zdx,Vw,Zfb,Qa,Zaq,Ze,List.cons_append,List.nil_append,List.append_nil]
theorem Y8:Qa=Zi:=by
 funext x
 obtain ⟨_,⟨_,_,_,_,_,_,_⟩⟩:=x
 simp only [Ko,Zdx,Vw,Zfb,Qa,Zaq,Zi,List.cons_append,List.nil_append,List.append_nil]
mutual
theorem Zir:∀ x,G.pures (Ko x)=true
 | ⟨f0,f1,f2,f3,f4,f5,f6⟩=>by simp [Ko,eP,K8,eI,eB,eS,eL,G.pures,G.pure,Zcb,Yf,Ziu f4,Zn1 f6,Kc,Xf,Zit,Zm]
theorem Zs0:∀ xs,G.pures (Zb8 xs)=true
 | []=>rfl
 | x::xs=>by simp [Zb8,Zcb,Zir x,Zs0 xs]
theorem Zqf:∀ x,G.pures (Vw x)=true
 | ⟨f0,f1,f2,f3⟩=>by simp [Vw,eP,K8,eI,eB,eS,eL,G.pures,G.pure,Zcb,Yf,Zir f3,Kc,Xf,Zit,Zm]
theorem Zn1:∀ xs,G.pures (Zcy xs)=true
 | []=>rfl
 | x::xs=>by simp [Zcy,Zcb,Zqf x,Zn1 xs]
theorem Zjj:∀ x,G.pures (Qa x)=true
 | ⟨f0,f1⟩=>by simp [Qa,eP,K8,eI,eB,eS,eL,G.pures,G.pure,Zcb,Yf,Zir f1,Kc,Xf,Zit,Zm]
theorem Ziu:∀ xs,G.pures (Vh xs)=true
 | []=>rfl
 | x::xs=>by simp [Vh,Zcb,Zjj x,Ziu xs]
end
theorem Xb:∀ x,G.pures (Zm x)=true:=fun x=>by simp [eI,eB,eS,eL,eP,G.pures,G.pure,Yf,K8,Zm,Kc,Xf,Yu,Xs,Xz,Y8]
theorem Zdn {O O':Objs} {n:Nat} (xs:List Zs):wkl O O' n (fl Zm xs) (fl Zm xs):=Zeg (Yf Xb xs)
theorem Zdl {O O':Objs} {n:Nat} (xs:List Zs) (b b':List G):wkl O O' n (fl Zm xs++b) (fl Zm xs++b')=wkl O O' n b b':=Zdq b b' _ (Yf Xb xs)
theorem Zc1 (xs:List Zs):(fl Zm xs).length=xs.length * 4:=Jo (f:=Zm) (k:=4) (fun _=>rfl) xs
theorem Zc9 (xs:List Zs):(fl Zm xs).all G.one=true:=Uy (fun x=>by simp [eI,eB,eS,eL,eP,Zgj,G.one,Value.oneCell',Zm]) xs
theorem Zdr {O O':Objs} {n:Nat} (x:Option Zs):wk O O' n (gP Zm x) (gP Zm x)=True:=Zn2 Xb x
theorem Zco {k:Nat} (x:Option Zs):(gP Zm x).under k=true:=Zdj Xb k x
theorem Zcl {ρ:Nat→Nat} (xs:List Zs):G.rens ρ (fl Zm xs)=fl Zm xs:=K2 ρ _ (Yf Xb xs)
theorem Zcj {ρ:Nat→Nat} (x:Option Zs):(gP Zm x).ren ρ=gP Zm x:=Zb7 ρ _ (K8 Xb x)
theorem Zdh {k:Nat} (xs:List Zs):G.unders k (fl Zm xs)=true:=X3 _ _ (Yf Xb xs)
theorem Xr:∀ x,G.pures (Zi x)=true:=fun x=>by rw [← Y8];exact Zjj x
theorem Zd8 {O O':Objs} {n:Nat} (xs:List Zl):wkl O O' n (fl Zi xs) (fl Zi xs):=Zeg (Yf Xr xs)
theorem Zd7 {O O':Objs} {n:Nat} (xs:List Zl) (b b':List G):wkl O O' n (fl Zi xs++b) (fl Zi xs++b')=wkl O O' n b b':=Zdq b b' _ (Yf Xr xs)
theorem Zd3 (xs:List Zl):(fl Zi xs).length=xs.length * 12:=Jo (f:=Zi) (k:=12) (fun _=>rfl) xs
theorem Zd5 (xs:List Zl):(fl Zi xs).all G.one=true:=Uy (fun x=>by simp [eI,eB,eS,eL,eP,Zgj,G.one,Value.oneCell',Zi]) xs
theorem Zd9 {O O':Objs} {n:Nat} (x:Option Zl):wk O O' n (gP Zi x) (gP Zi x)=True:=Zn2 Xr x
theorem Zdk {k:Nat} (x:Option Zl):(gP Zi x).under k=true:=Zdj Xr k x
theorem Zdf {ρ:Nat→Nat} (xs:List Zl):G.rens ρ (fl Zi xs)=fl Zi xs:=K2 ρ _ (Yf Xr xs)
theorem Zde {ρ:Nat→Nat} (x:Option Zl):(gP Zi x).ren ρ=gP Zi x:=Zb7 ρ _ (K8 Xr x)
theorem Zd6 {k:Nat} (xs:List Zl):G.unders k (fl Zi xs)=true:=X3 _ _ (Yf Xr xs)
theorem Q4:∀ x,G.pures (Ze x)=true:=fun x=>by rw [← Xz];exact Zqf x
theorem Zi4 {O O':Objs} {n:Nat} (xs:List Zj):wkl O O' n (fl Ze xs) (fl Ze xs):=Zeg (Yf Q4 xs)
theorem Zi3 {O O':Objs} {n:Nat} (xs:List Zj) (b b':List G):wkl O O' n (fl Ze xs++b) (fl Ze xs++b')=wkl O O' n b b':=Zdq b b' _ (Yf Q4 xs)
theorem Zic (xs:List Zj):(fl Ze xs).length=xs.length * 14:=Jo (f:=Ze) (k:=14) (fun _=>rfl) xs
theorem Zio (xs:List Zj):(fl Ze xs).all G.one=true:=Uy (fun x=>by simp [eI,eB,eS,eL,eP,Zgj,G.one,Value.oneCell',Ze]) xs
theorem Zi5 {O O':Objs} {n:Nat} (x:Option Zj):wk O O' n (gP Ze x) (gP Ze x)=True:=Zn2 Q4 x
theorem Zhp {k:Nat} (x:Option Zj):(gP Ze x).under k=true:=Zdj Q4 k x
theorem Zhn {ρ:Nat→Nat} (xs:List Zj):G.rens ρ (fl Ze xs)=fl Ze xs:=K2 ρ _ (Yf Q4 xs)
theorem Zhm {ρ:Nat→Nat} (x:Option Zj):(gP Ze x).ren ρ=gP Ze x:=Zb7 ρ _ (K8 Q4 x)
theorem Zi2 {k:Nat} (xs:List Zj):G.unders k (fl Ze xs)=true:=X3 _ _ (Yf Q4 xs)
theorem Zdc:∀ x,G.pures ((eI .u8) x)=true:=fun x=>by simp [eI,eB,eS,eL,eP,G.pures,G.pure,Yf,K8,Kc,Xf,Xb,Xr,Q4,Yu,Xs,Xz,Y8]
theorem Zsh {O O':Objs} {n:Nat} (xs:List Int):wkl O O' n (fl (eI .u8) xs) (fl (eI .u8) xs):=Zeg (Yf Zdc xs)
theorem Zsg {O O':Objs} {n:Nat} (xs:List Int) (b b':List G):wkl O O' n (fl (eI .u8) xs++b) (fl (eI .u8) xs++b')=wkl O O' n b b':=Zdq b b' _ (Yf Zdc xs)
theorem Zrf (xs:List Int):(fl (eI .u8) xs).length=xs.length * 1:=Jo (f:=(eI .u8)) (k:=1) (fun _=>rfl) xs
theorem Zrq (xs:List Int):(fl (eI .u8) xs).all G.one=true:=Uy (fun x=>by simp [eI,eB,eS,eL,eP,Zgj,G.one,Value.oneCell']) xs
theorem Zsi {O O':Objs} {n:Nat} (x:Option Int):wk O O' n (gP (eI .u8) x) (gP (eI .u8) x)=True:=Zn2 Zdc x
theorem Zpg {k:Nat} (x:Option Int):(gP (eI .u8) x).under k=true:=Zdj Zdc k x
theorem Zo8 {ρ:Nat→Nat} (xs:List Int):G.rens ρ (fl (eI .u8) xs)=fl (eI .u8) xs:=K2 ρ _ (Yf Zdc xs)
theorem Zo7 {ρ:Nat→Nat} (x:Option Int):(gP (eI .u8) x).ren ρ=gP (eI .u8) x:=Zb7 ρ _ (K8 Zdc x)
theorem Zsa {k:Nat} (xs:List Int):G.unders k (fl (eI .u8) xs)=true:=X3 _ _ (Yf Zdc xs)
def Zu (x:Zy):List G:=[.val (.int .i64 x.Kind),.val (.int .i64 x.At)]
theorem Q5:∀ x,G.pures (Zu x)=true:=fun x=>by simp [eI,eB,eS,eL,eP,G.pures,G.pure,Yf,K8,Zu,Kc,Xf,Xb,Xr,Q4,Zdc,Yu,Xs,Xz,Y8]
theorem Zgt {O O':Objs} {n:Nat} (xs:List Zy):wkl O O' n (fl Zu xs) (fl Zu xs):=Zeg (Yf Q5 xs)
theorem Zgr {O O':Objs} {n:Nat} (xs:List Zy) (b b':List G):wkl O O' n (fl Zu xs++b) (fl Zu xs++b')=wkl O O' n b b':=Zdq b b' _ (Yf Q5 xs)
theorem Zf9 (xs:List Zy):(fl Zu xs).length=xs.length * 2:=Jo (f:=Zu) (k:=2) (fun _=>rfl) xs
theorem Zgh (xs:List Zy):(fl Zu xs).all G.one=true:=Uy (fun x=>by simp [eI,eB,eS,eL,eP,Zgj,G.one,Value.oneCell',Zu]) xs
theorem Zgv {O O':Objs} {n:Nat} (x:Option Zy):wk O O' n (gP Zu x) (gP Zu x)=True:=Zn2 Q5 x
theorem Zfx {k:Nat} (x:Option Zy):(gP Zu x).under k=true:=Zdj Q5 k x
theorem Zfq {ρ:Nat→Nat} (xs:List Zy):G.rens ρ (fl Zu xs)=fl Zu xs:=K2 ρ _ (Yf Q5 xs)
theorem Zfo {ρ:Nat→Nat} (x:Option Zy):(gP Zu x).ren ρ=gP Zu x:=Zb7 ρ _ (K8 Q5 x)
theorem Zgo {k:Nat} (xs:List Zy):G.unders k (fl Zu xs)=true:=X3 _ _ (Yf Q5 xs)
def Yh (x:Zw):List G:=[.sl x.out.length (fl Ze x.out),.val (.int .i64 x.kept),.sl x.gone.length (fl Za x.gone),.sl x.come.length (fl Za x.come)]
theorem X2:∀ x,G.pures (Yh x)=true:=fun x=>by simp [eI,eB,eS,eL,eP,G.pures,G.pure,Yf,K8,Yh,Kc,Xf,Xb,Xr,Q4,Zdc,Q5,Yu,Xs,Xz,Y8]
theorem Zcr {O O':Objs} {n:Nat} (xs:List Zw):wkl O O' n (fl Yh xs) (fl Yh xs):=Zeg (Yf X2 xs)
theorem Zcq {O O':Objs} {n:Nat} (xs:List Zw) (b b':List G):wkl O O' n (fl Yh xs++b) (fl Yh xs++b')=wkl O O' n b b':=Zdq b b' _ (Yf X2 xs)
theorem Zce (xs:List Zw):(fl Yh xs).length=xs.length * 4:=Jo (f:=Yh) (k:=4) (fun _=>rfl) xs
theorem Zci (xs:List Zw):(fl Yh xs).all G.one=true:=Uy (fun x=>by simp [eI,eB,eS,eL,eP,Zgj,G.one,Value.oneCell',Yh]) xs
theorem Zcs {O O':Objs} {n:Nat} (x:Option Zw):wk O O' n (gP Yh x) (gP Yh x)=True:=Zn2 X2 x
theorem Zbp {k:Nat} (x:Option Zw):(gP Yh x).under k=true:=Zdj X2 k x
theorem Zbo {ρ:Nat→Nat} (xs:List Zw):G.rens ρ (fl Yh xs)=fl Yh xs:=K2 ρ _ (Yf X2 xs)
theorem Zbn {ρ:Nat→Nat} (x:Option Zw):(gP Yh x).ren ρ=gP Yh x:=Zb7 ρ _ (K8 X2 x)
theorem Zcn {k:Nat} (xs:List Zw):G.unders k (fl Yh xs)=true:=X3 _ _ (Yf X2 xs)
theorem Ze1:∀ x,G.pures ((eI .i64) x)=true:=fun x=>by simp [eI,eB,eS,eL,eP,G.pures,G.pure,Yf,K8,Kc,Xf,Xb,Xr,Q4,Zdc,Q5,X2,Yu,Xs,Xz,Y8]
theorem Zpj {O O':Objs} {n:Nat} (xs:List Int):wkl O O' n (fl (eI .i64) xs) (fl (eI .i64) xs):=Zeg (Yf Ze1 xs)
theorem Zph {O O':Objs} {n:Nat} (xs:List Int) (b b':List G):wkl O O' n (fl (eI .i64) xs++b) (fl (eI .i64) xs++b')=wkl O O' n b b':=Zdq b b' _ (Yf Ze1 xs)
theorem Zon (xs:List Int):(fl (eI .i64) xs).length=xs.length * 1:=Jo (f:=(eI .i64)) (k:=1) (fun _=>rfl) xs
theorem Zoz (xs:List Int):(fl (eI .i64) xs).all G.one=true:=Uy (fun x=>by simp [eI,eB,eS,eL,eP,Zgj,G.one,Value.oneCell']) xs
theorem Zpl {O O':Objs} {n:Nat} (x:Option Int):wk O O' n (gP (eI .i64) x) (gP (eI .i64) x)=True:=Zn2 Ze1 x
theorem Zmz {k:Nat} (x:Option Int):(gP (eI .i64) x).under k=true:=Zdj Ze1 k x
theorem Zmr {ρ:Nat→Nat} (xs:List Int):G.rens ρ (fl (eI .i64) xs)=fl (eI .i64) xs:=K2 ρ _ (Yf Ze1 xs)
theorem Zmp {ρ:Nat→Nat} (x:Option Int):(gP (eI .i64) x).ren ρ=gP (eI .i64) x:=Zb7 ρ _ (K8 Ze1 x)
theorem Zpe {k:Nat} (xs:List Int):G.unders k (fl (eI .i64) xs)=true:=X3 _ _ (Yf Ze1 xs)
def Yo (x:Zh):List G:=[.sl x.left.length (fl Za x.left),.sl x.out.length (fl Za x.out)]
theorem Je:∀ x,G.pures (Yo x)=true:=fun x=>by simp [eI,eB,eS,eL,eP,G.pures,G.pure,Yf,K8,Yo,Kc,Xf,Xb,Xr,Q4,Zdc,Q5,X2,Ze1,Yu,Xs,Xz,Y8]
theorem Zdo {O O':Objs} {n:Nat} (xs:List Zh):wkl O O' n (fl Yo xs) (fl Yo xs):=Zeg (Yf Je xs)
theorem Zdm {O O':Objs} {n:Nat} (xs:List Zh) (b b':List G):wkl O O' n (fl Yo xs++b) (fl Yo xs++b')=wkl O O' n b b':=Zdq b b' _ (Yf Je xs)
theorem Zc2 (xs:List Zh):(fl Yo xs).length=xs.length * 2:=Jo (f:=Yo) (k:=2) (fun _=>rfl) xs
theorem Zda (xs:List Zh):(fl Yo xs).all G.one=true:=Uy (fun x=>by simp [eI,eB,eS,eL,eP,Zgj,G.one,Value.oneCell',Yo]) xs
theorem Zds {O O':Objs} {n:Nat} (x:Option Zh):wk O O' n (gP Yo x) (gP Yo x)=True:=Zn2 Je x
theorem Zcp {k:Nat} (x:Option Zh):(gP Yo x).under k=true:=Zdj Je k x
theorem Zcm {ρ:Nat→Nat} (xs:List Zh):G.rens ρ (fl Yo xs)=fl Yo xs:=K2 ρ _ (Yf Je xs)
theorem Zck {ρ:Nat→Nat} (x:Option Zh):(gP Yo x).ren ρ=gP Yo x:=Zb7 ρ _ (K8 Je x)
theorem Zdi {k:Nat} (xs:List Zh):G.unders k (fl Yo xs)=true:=X3 _ _ (Yf Je xs)
def Y6 (x:Zj):List G:=[.val (.int .i64 x.Kind),.val (.int .i64 x.N),.sl x.L.length (fl Za x.L),.val (.int .i64 x.E.Kind),.val (.int .i64 x.E.Old.Kind),.sl x.E.Old.Words.length (fl (eI .u64) x.E.Old.Words),.sl x.E.Old.Kids.length (fl Za x.E.Old.Kids),.val (.int .i64 x.E.New.Kind),.sl x.E.New.Words.length (fl (eI .u64) x.E.New.Words),.sl x.E.New.Kids.length (fl Za x.E.New.Kids),.sl x.E.Words.length (fl Zm x.E.Words),.sl x.E.Kids.length (fl Zi x.E.Kids),.val (.int .i64 x.E.List_),.sl x.E.Ops.length (fl Ze x.E.Ops)]
def Uf (x:Zl):List G:=[.val (.int .i64 x.At),.val (.int .i64 x.E.Kind),.val (.int .i64 x.E.Old.Kind),.sl x.E.Old.Words.length (fl (eI .u64) x.E.Old.Words),.sl x.E.Old.Kids.length (fl Za x.E.Old.Kids),.val (.int .i64 x.E.New.Kind),.sl x.E.New.Words.length (fl (eI .u64) x.E.New.Words),.sl x.E.New.Kids.length (fl Za x.E.New.Kids),.sl x.E.Words.length (fl Zm x.E.Words),.sl x.E.Kids.length (fl Zi x.E.Kids),.val (.int .i64 x.E.List_),.sl x.E.Ops.length (fl Ze x.E.Ops)]
def Zf (x:Zc):List G:=[.val (.int .i64 x.Kind),.val (.int .i64 x.Old.Kind),.sl x.Old.Words.length (fl (eI .u64) x.Old.Words),.sl x.Old.Kids.length (fl Za x.Old.Kids),.val (.int .i64 x.New.Kind),.sl x.New.Words.length (fl (eI .u64) x.New.Words),.sl x.New.Kids.length (fl Za x.New.Kids),.sl x.Words.length (fl Zm x.Words),.sl x.Kids.length (fl Zi x.Kids),.val (.int .i64 x.List_),.sl x.Ops.length (fl Ze x.Ops)]
def Zd (x:Zb):List G:=[.val (.int .i64 x.Kind),.sl x.Words.length (fl (eI .u64) x.Words),.sl x.Kids.length (fl Za x.Kids)]
def Zav (x:Zs):List G:=[.val (.int .i64 x.At),.val (.int .u8 x.Mask),.val (.int .u64 x.Old),.val (.int .u64 x.New)]
abbrev vI (x:Int):G := .val (.int .i64 x)
abbrev vB (x:Bool):G := .val (.bool x)
abbrev nV:G := .val (.slice none 0 0)
abbrev sL {α:Type} (e:α→List G) (x:List α):G := .sl x.length (fl e x)
abbrev oR {α:Type} (t s:Nat) (e:α→List G) (x:List α):GObj:=⟨true,t,s,x.length,fl e x⟩
theorem zFn {f:FuncId} {gs:List G} {O O2:Objs} {n n2:Nat} {r:G} {fn:Func} {c:Code} (hc:∀ args w,(callFunc f args).run Try.prog w = .ok (.enter f args) w) (hf:Try.prog.funcs[f]? = some fn) (h:Und O n→O n=none→(∀ k,O (n+k)=none)→W Try.prog n c (Fin Qo fn.results.toList r n O2 n2) ⟨fn.ntmps,[],Zfd 0 gs⟩ (Zv O n []) n) (hb:fn.body=some c:=by exact rfl) (hn:gs.length≤fn.ntmps:=by exact Nat.le_of_ble_eq_true rfl) (h2:n≤n2:=by first | exact Nat.le_refl _ | omega):GTo Try.prog f gs O n r O2 n2:=Zl1 Z4 hc hf hb hn h2 fun hU=>h hU (hU.fresh _ (Nat.le_refl _)) fun k=>hU.fresh _ (Nat.le_add_right _ _)
structure Hid (p:Prop):Prop where
 get:p
structure Ar {α:Type} (a:α):Prop where
def Ar.v {α:Type} {a:α} (_:Ar a):α:=a
theorem zQ {A B:Prop} (l0:List Nat) (b:B) (e:Ar l0→Hid B→A:=by intro x0 bZ;refine Zni x0.v (Yx Z4 [] ?_);simp only [push_cast,seval,↓reduceIte,Zk,Ar.v,hN0,hN];exact bZ.get):A:=e ⟨⟩ ⟨b⟩
theorem zQD {A B:Prop} (l0:List Nat) (l1:List (Option Bool)) (b:B) (e:Ar l0→Ar l1→Hid B→A:=by intro x0 x1 bZ;refine Zni x0.v (Yx Z4 x1.v ?_);simp only [push_cast,seval,↓reduceIte,Zk,Ar.v,hN0,hN];(repeat (with_reducible refine And.intro (by first | (intro h0;simp only [h0,and_self];done) | (intro h0;simp only [h0,Bool.not_false,Bool.not_true,Bool.true_and,Bool.and_true,true_and,and_true,and_self,imp_self,implies_true,bne_iff_ne,ne_eq,beq_iff_eq];done) | (intros;simp_all;done) | exact True.intro) ?_));exact bZ.get):A:=e ⟨⟩ ⟨⟩ ⟨b⟩
theorem Yn {A:Prop} (l0:List G) (e:Ar l0→A:=by intro x0;refine Yee ?_;(try simp only [Y2,Z7]);have h:=Option.some.inj h;subst h;refine Zy5 (.inr rfl) hU x0.v (by omega) ?_;simp only [push_cast,seval,↓reduceIte,Zk,Ar.v,hN0,hN]):A:=e ⟨⟩
theorem Q7 {A B:Prop} (l0:List Nat) (l1:List Bool) (b:B) (e:Ar l0→Ar l1→Hid B→A:=by intro x0 x1 bZ;refine Z9g ?_;(try simp only [Y2,Z7]);refine Zq1 x0.v x1.v ?_;simp only [push_cast,seval,↓reduceIte,Ar.v];exact bZ.get):A:=e ⟨⟩ ⟨⟩ ⟨b⟩
theorem zQd {A B:Prop} (l0:List Nat) (l1:List Nat) (l2:List Bool) (b:B) (e:Ar l0→Ar l1→Ar l2→Hid B→A:=by intro x0 x1 x2 bZ;refine Zni x0.v (Yx Z4 [] ?_);simp only [push_cast,seval,↓reduceIte,Zk,Ar.v,hN0,hN];refine Zq1 x1.v x2.v ?_;simp only [push_cast,seval,↓reduceIte,Ar.v];exact bZ.get):A:=e ⟨⟩ ⟨⟩ ⟨⟩ ⟨b⟩
theorem Zao {A B:Prop} (l0:List (Option Bool)) {P1:Prop} (p1:P1) {P2:Prop} (p2:P2) {P3:Prop} (p3:P3) (b:B) (e:Ar l0→P1→P2→P3→Hid B→A:=by intro x0 x1 x2 x3 bZ;refine Yx Z4 x0.v ?_;simp only [push_cast,Nat.reduceAdd,Nat.reduceSub,Nat.reduceMul,Nat.reduceLeDiff,Nat.reduceLT,Nat.reduceEqDiff,↓reduceIte,reduceCtorEq,Int.reduceBEq,Int.reduceBNe,Nat.reduceBEq,Int.reduceLE,Int.reduceLT,Int.reduceEq,Int.reduceNe,Int.reduceNeg,Nat.reduceDiv,Nat.reduceMod,Nat.reducePow,Zk,Ar.v,x1,x2,x3,hN0,hN];exact bZ.get):A:=e ⟨⟩ p1 p2 p3 ⟨b⟩
theorem zF3 {A B:Prop} {P0:Prop} (p0:P0) {P1:Prop} (p1:P1) {P2:Prop} (p2:P2) (b:B) (e:P0→P1→P2→Hid B→A:=by intro x0 x1 x2 bZ;simp only [push_cast,Nat.reduceAdd,Nat.reduceSub,Nat.reduceMul,Nat.reduceLeDiff,Nat.reduceLT,Nat.reduceEqDiff,↓reduceIte,reduceCtorEq,Int.reduceBEq,Int.reduceBNe,Nat.reduceBEq,Int.reduceLE,Int.reduceLT,Int.reduceEq,Int.reduceNe,Int.reduceNeg,Nat.reduceDiv,Nat.reduceMod,Nat.reducePow,Zk,x0,x1,x2,hN0,hN];exact bZ.get):A:=e p0 p1 p2 ⟨b⟩
theorem zD {A B:Prop} (l0:List Nat) (l1:List Bool) (b:B) (e:Ar l0→Ar l1→Hid B→A:=by intro x0 x1 bZ;refine Zq1 x0.v x1.v ?_;simp only [push_cast,seval,↓reduceIte,Ar.v];exact bZ.get):A:=e ⟨⟩ ⟨⟩ ⟨b⟩
theorem zR {A B:Prop} (b:B) (e:Hid B→A:=by intro bZ;refine Yx Z4 [] ?_;simp only [push_cast,seval,↓reduceIte,Zk,hN0,hN];exact bZ.get):A:=e ⟨b⟩
theorem zEn {A:Prop} {P0:Prop} (p0:P0) (e:P0→A:=by intro x0;have h9:=Option.some.inj x0;subst h9;refine And.intro rfl (Fit2.of (Ys hU rfl rfl ?_) (by omega));simp only [push_cast,seval,↓reduceIte,Zk,hN0,hN]):A:=e p0
theorem zEx {A:Prop} {P0:Prop} (p0:P0) (e:P0→A:=by intro x0;refine Z9f ?_;(try simp only [Y2,Z7,↓reduceIte,Nat.reduceEqDiff]);have h9:=Option.some.inj x0;subst h9;refine And.intro (fun h=>by cases h) (And.intro rfl (Fit2.of (Ys hU rfl rfl ?_) (by omega)));simp only [push_cast,seval,↓reduceIte,Zk,hN0,hN]):A:=e p0
theorem zCd {A B:Prop} {P0:Prop} (p0:P0) (l1:List Nat) (l2:List Bool) (b:B) (e:P0→Ar l1→Ar l2→Hid B→A:=by intro x0 x1 x2 bZ;refine Yx Z4 [] ?_;simp only [push_cast,seval,↓reduceIte,Zk,hN0,hN];refine x0.then ?_;simp only [push_cast,seval,↓reduceIte,Zk,hN0,hN];refine Zq1 x1.v x2.v ?_;simp only [push_cast,seval,↓reduceIte,Ar.v];exact bZ.get):A:=e p0 ⟨⟩ ⟨⟩ ⟨b⟩
theorem zRd {A B:Prop} (l0:List Nat) (l1:List Bool) (b:B) (e:Ar l0→Ar l1→Hid B→A:=by intro x0 x1 bZ;refine Yx Z4 [] ?_;simp only [push_cast,seval,↓reduceIte,Zk,hN0,hN];refine Zq1 x0.v x1.v ?_;simp only [push_cast,seval,↓reduceIte,Ar.v];exact bZ.get):A:=e ⟨⟩ ⟨⟩ ⟨b⟩
theorem zDs {A B:Prop} (l0:List Nat) (l1:List Bool) (b:B) (e:Ar l0→Ar l1→Hid B→A:=by intro x0 x1 bZ;refine Zq1 x0.v x1.v ?_;simp only [push_cast,seval,↓reduceIte,Ar.v];refine Zg ?_;exact bZ.get):A:=e ⟨⟩ ⟨⟩ ⟨b⟩
theorem zW {A B:Prop} (b:B) (e:Hid B→A:=by intro bZ;refine Yee ?_;(try simp only [Y2,Z7]);exact bZ.get):A:=e ⟨b⟩
theorem zEy {A:Prop} {P0:Prop} (p0:P0) (e:P0→A:=by intro x0;have h9:=Option.some.inj x0;subst h9;refine And.intro (fun h=>by cases h) (And.intro rfl (Fit2.of (Ys hU rfl rfl ?_) (by omega)));simp only [push_cast,seval,↓reduceIte,Zk,hN0,hN]):A:=e p0
theorem zX1 {A B:Prop} {P0:Prop} (p0:P0) (b:B) (e:P0→Hid B→A:=by intro x0 bZ;simp only [push_cast,seval,↓reduceIte,Zk,x0,hN0,hN];exact bZ.get):A:=e p0 ⟨b⟩
theorem zG {A B:Prop} (b:B) (e:Hid B→A:=by intro bZ;(repeat (with_reducible refine And.intro (by first | (intro h0;simp only [h0,and_self];done) | (intro h0;simp only [h0,Bool.not_false,Bool.not_true,Bool.true_and,Bool.and_true,true_and,and_true,and_self,imp_self,implies_true,bne_iff_ne,ne_eq,beq_iff_eq];done) | (intros;simp_all;done) | exact True.intro) ?_));exact bZ.get):A:=e ⟨b⟩
theorem Qx {A:Prop} {P0:Prop} (p0:P0) {P1:Prop} (p1:P1) (e:P0→P1→A:=by intro x0 x1;have h9:=Option.some.inj x0;subst h9;refine And.intro rfl (Fit2.of (Ys hU rfl rfl ?_) (by omega));simp only [push_cast,seval,↓reduceIte,Zk,x1,hN0,hN]):A:=e p0 p1
theorem zX3 {A B:Prop} {P0:Prop} (p0:P0) {P1:Prop} (p1:P1) {P2:Prop} (p2:P2) (b:B) (e:P0→P1→P2→Hid B→A:=by intro x0 x1 x2 bZ;simp only [push_cast,seval,↓reduceIte,Zk,x0,x1,x2,hN0,hN];exact bZ.get):A:=e p0 p1 p2 ⟨b⟩
theorem Zf6 {A:Prop} {P0:Prop} (p0:P0) {P1:Prop} (p1:P1) {P2:Prop} (p2:P2) {P3:Prop} (p3:P3) (e:P0→P1→P2→P3→A:=by intro x0 x1 x2 x3;have h9:=Option.some.inj x0;subst h9;refine And.intro rfl (Fit2.of (Ys hU rfl rfl ?_) (by omega));simp only [push_cast,seval,↓reduceIte,Zk,x1,x2,x3,hN0,hN]):A:=e p0 p1 p2 p3
theorem zF8 {A B:Prop} {P0:Prop} (p0:P0) {P1:Prop} (p1:P1) {P2:Prop} (p2:P2) {P3:Prop} (p3:P3) {P4:Prop} (p4:P4) {P5:Prop} (p5:P5) {P6:Prop} (p6:P6) {P7:Prop} (p7:P7) (b:B) (e:P0→P1→P2→P3→P4→P5→P6→P7→Hid B→A:=by intro x0 x1 x2 x3 x4 x5 x6 x7 bZ;simp only [push_cast,Nat.reduceAdd,Nat.reduceSub,Nat.reduceMul,Nat.reduceLeDiff,Nat.reduceLT,Nat.reduceEqDiff,↓reduceIte,reduceCtorEq,Int.reduceBEq,Int.reduceBNe,Nat.reduceBEq,Int.reduceLE,Int.reduceLT,Int.reduceEq,Int.reduceNe,Int.reduceNeg,Nat.reduceDiv,Nat.reduceMod,Nat.reducePow,Zk,x0,x1,x2,x3,x4,x5,x6,x7,hN0,hN];exact bZ.get):A:=e p0 p1 p2 p3 p4 p5 p6 p7 ⟨b⟩
theorem Yho {A:Prop} {P0:Prop} (p0:P0) {P1:Prop} (p1:P1) {P2:Prop} (p2:P2) {P3:Prop} (p3:P3) {P4:Prop} (p4:P4) {P5:Prop} (p5:P5) {P6:Prop} (p6:P6) {P7:Prop} (p7:P7) {P8:Prop} (p8:P8) (e:P0→P1→P2→P3→P4→P5→P6→P7→P8→A:=by intro x0 x1 x2 x3 x4 x5 x6 x7 x8;have h9:=Option.some.inj x0;subst h9;refine And.intro rfl (Fit2.of (Ys hU rfl rfl ?_) (by omega));simp only [push_cast,Nat.reduceAdd,Nat.reduceSub,Nat.reduceMul,Nat.reduceLeDiff,Nat.reduceLT,Nat.reduceEqDiff,↓reduceIte,reduceCtorEq,Int.reduceBEq,Int.reduceBNe,Nat.reduceBEq,Int.reduceLE,Int.reduceLT,Int.reduceEq,Int.reduceNe,Int.reduceNeg,Nat.reduceDiv,Nat.reduceMod,Nat.reducePow,Zk,x1,x2,x3,x4,x5,x6,x7,x8,hN0,hN]):A:=e p0 p1 p2 p3 p4 p5 p6 p7 p8
theorem zX5 {A B:Prop} {P0:Prop} (p0:P0) {P1:Prop} (p1:P1) {P2:Prop} (p2:P2) {P3:Prop} (p3:P3) {P4:Prop} (p4:P4) (b:B) (e:P0→P1→P2→P3→P4→Hid B→A:=by intro x0 x1 x2 x3 x4 bZ;simp only [push_cast,seval,↓reduceIte,Zk,x0,x1,x2,x3,x4,hN0,hN];exact bZ.get):A:=e p0 p1 p2 p3 p4 ⟨b⟩
theorem Zyr {A:Prop} {P0:Prop} (p0:P0) {P1:Prop} (p1:P1) {P2:Prop} (p2:P2) {P3:Prop} (p3:P3) {P4:Prop} (p4:P4) {P5:Prop} (p5:P5) (e:P0→P1→P2→P3→P4→P5→A:=by intro x0 x1 x2 x3 x4 x5;have h9:=Option.some.inj x0;subst h9;refine And.intro rfl (Fit2.of (Ys hU rfl rfl ?_) (by omega));simp only [push_cast,seval,↓reduceIte,Zk,x1,x2,x3,x4,x5,hN0,hN]):A:=e p0 p1 p2 p3 p4 p5
theorem zX4 {A B:Prop} {P0:Prop} (p0:P0) {P1:Prop} (p1:P1) {P2:Prop} (p2:P2) {P3:Prop} (p3:P3) (b:B) (e:P0→P1→P2→P3→Hid B→A:=by intro x0 x1 x2 x3 bZ;simp only [push_cast,seval,↓reduceIte,Zk,x0,x1,x2,x3,hN0,hN];exact bZ.get):A:=e p0 p1 p2 p3 ⟨b⟩
theorem Zn3 {A:Prop} {P0:Prop} (p0:P0) {P1:Prop} (p1:P1) {P2:Prop} (p2:P2) {P3:Prop} (p3:P3) {P4:Prop} (p4:P4) (e:P0→P1→P2→P3→P4→A:=by intro x0 x1 x2 x3 x4;have h9:=Option.some.inj x0;subst h9;refine And.intro rfl (Fit2.of (Ys hU rfl rfl ?_) (by omega));simp only [push_cast,seval,↓reduceIte,Zk,x1,x2,x3,x4,hN0,hN]):A:=e p0 p1 p2 p3 p4
theorem zF7 {A B:Prop} {P0:Prop} (p0:P0) {P1:Prop} (p1:P1) {P2:Prop} (p2:P2) {P3:Prop} (p3:P3) {P4:Prop} (p4:P4) {P5:Prop} (p5:P5) {P6:Prop} (p6:P6) (b:B) (e:P0→P1→P2→P3→P4→P5→P6→Hid B→A:=by intro x0 x1 x2 x3 x4 x5 x6 bZ;simp only [push_cast,Nat.reduceAdd,Nat.reduceSub,Nat.reduceMul,Nat.reduceLeDiff,Nat.reduceLT,Nat.reduceEqDiff,↓reduceIte,reduceCtorEq,Int.reduceBEq,Int.reduceBNe,Nat.reduceBEq,Int.reduceLE,Int.reduceLT,Int.reduceEq,Int.reduceNe,Int.reduceNeg,Nat.reduceDiv,Nat.reduceMod,Nat.reducePow,Zk,x0,x1,x2,x3,x4,x5,x6,hN0,hN];exact bZ.get):A:=e p0 p1 p2 p3 p4 p5 p6 ⟨b⟩
theorem Yep {A:Prop} {P0:Prop} (p0:P0) {P1:Prop} (p1:P1) {P2:Prop} (p2:P2) {P3:Prop} (p3:P3) {P4:Prop} (p4:P4) {P5:Prop} (p5:P5) {P6:Prop} (p6:P6) {P7:Prop} (p7:P7) (e:P0→P1→P2→P3→P4→P5→P6→P7→A:=by intro x0 x1 x2 x3 x4 x5 x6 x7;have h9:=Option.some.inj x0;subst h9;refine And.intro rfl (Fit2.of (Ys hU rfl rfl ?_) (by omega));simp only [push_cast,Nat.reduceAdd,Nat.reduceSub,Nat.reduceMul,Nat.reduceLeDiff,Nat.reduceLT,Nat.reduceEqDiff,↓reduceIte,reduceCtorEq,Int.reduceBEq,Int.reduceBNe,Nat.reduceBEq,Int.reduceLE,Int.reduceLT,Int.reduceEq,Int.reduceNe,Int.reduceNeg,Nat.reduceDiv,Nat.reduceMod,Nat.reducePow,Zk,x1,x2,x3,x4,x5,x6,x7,hN0,hN]):A:=e p0 p1 p2 p3 p4 p5 p6 p7
theorem Zhq {A:Prop} (l0:List G) (e:Ar l0→A:=by intro x0;have h:=Option.some.inj h;subst h;refine Zy5 (.inr rfl) hU x0.v (by omega) ?_;simp only [push_cast,seval,↓reduceIte,Zk,Ar.v,hN0,hN]):A:=e ⟨⟩
theorem Jl {A B:Prop} (l0:List (Option Bool)) {P1:Prop} (p1:P1) (b:B) (e:Ar l0→P1→Hid B→A:=by intro x0 x1 bZ;refine Yx Z4 x0.v ?_;simp only [push_cast,seval,↓reduceIte,Zk,Ar.v,x1,hN0,hN];exact bZ.get):A:=e ⟨⟩ p1 ⟨b⟩
theorem zC {A B:Prop} {P0:Prop} (p0:P0) (b:B) (e:P0→Hid B→A:=by intro x0 bZ;refine Yx Z4 [] ?_;simp only [push_cast,seval,↓reduceIte,Zk,hN0,hN];refine x0.then ?_;simp only [push_cast,seval,↓reduceIte,Zk,hN0,hN];exact bZ.get):A:=e p0 ⟨b⟩
theorem zK {A B:Prop} (b:B) (e:Hid B→A:=by intro bZ;refine Z9g ?_;(try simp only [Y2,Z7]);exact bZ.get):A:=e ⟨b⟩
theorem Zss {A B:Prop} (l0:List (Option Bool)) {P1:Prop} (p1:P1) {P2:Prop} (p2:P2) {P3:Prop} (p3:P3) {P4:Prop} (p4:P4) (b:B) (e:Ar l0→P1→P2→P3→P4→Hid B→A:=by intro x0 x1 x2 x3 x4 bZ;refine Yx Z4 x0.v ?_;simp only [push_cast,Nat.reduceAdd,Nat.reduceSub,Nat.reduceMul,Nat.reduceLeDiff,Nat.reduceLT,Nat.reduceEqDiff,↓reduceIte,reduceCtorEq,Int.reduceBEq,Int.reduceBNe,Nat.reduceBEq,Int.reduceLE,Int.reduceLT,Int.reduceEq,Int.reduceNe,Int.reduceNeg,Nat.reduceDiv,Nat.reduceMod,Nat.reducePow,Zk,Ar.v,x1,x2,x3,x4,hN0,hN];exact bZ.get):A:=e ⟨⟩ p1 p2 p3 p4 ⟨b⟩
theorem zF4 {A B:Prop} {P0:Prop} (p0:P0) {P1:Prop} (p1:P1) {P2:Prop} (p2:P2) {P3:Prop} (p3:P3) (b:B) (e:P0→P1→P2→P3→Hid B→A:=by intro x0 x1 x2 x3 bZ;simp only [push_cast,Nat.reduceAdd,Nat.reduceSub,Nat.reduceMul,Nat.reduceLeDiff,Nat.reduceLT,Nat.reduceEqDiff,↓reduceIte,reduceCtorEq,Int.reduceBEq,Int.reduceBNe,Nat.reduceBEq,Int.reduceLE,Int.reduceLT,Int.reduceEq,Int.reduceNe,Int.reduceNeg,Nat.reduceDiv,Nat.reduceMod,Nat.reducePow,Zk,x0,x1,x2,x3,hN0,hN];exact bZ.get):A:=e p0 p1 p2 p3 ⟨b⟩
theorem Yer {A B:Prop} (l0:List (Option Bool)) {P1:Prop} (p1:P1) {P2:Prop} (p2:P2) {P3:Prop} (p3:P3) {P4:Prop} (p4:P4) {P5:Prop} (p5:P5) {P6:Prop} (p6:P6) {P7:Prop} (p7:P7) (b:B) (e:Ar l0→P1→P2→P3→P4→P5→P6→P7→Hid B→A:=by intro x0 x1 x2 x3 x4 x5 x6 x7 bZ;refine Yx Z4 x0.v ?_;simp only [push_cast,Nat.reduceAdd,Nat.reduceSub,Nat.reduceMul,Nat.reduceLeDiff,Nat.reduceLT,Nat.reduceEqDiff,↓reduceIte,reduceCtorEq,Int.reduceBEq,Int.reduceBNe,Nat.reduceBEq,Int.reduceLE,Int.reduceLT,Int.reduceEq,Int.reduceNe,Int.reduceNeg,Nat.reduceDiv,Nat.reduceMod,Nat.reducePow,Zk,Ar.v,x1,x2,x3,x4,x5,x6,x7,hN0,hN];exact bZ.get):A:=e ⟨⟩ p1 p2 p3 p4 p5 p6 p7 ⟨b⟩
theorem Z8e {A:Prop} {P0:Prop} (p0:P0) {P1:Prop} (p1:P1) {P2:Prop} (p2:P2) {P3:Prop} (p3:P3) {P4:Prop} (p4:P4) (e:P0→P1→P2→P3→P4→A:=by intro x0 x1 x2 x3 x4;have h9:=Option.some.inj x0;subst h9;refine And.intro rfl (Fit2.of (Ys hU rfl rfl ?_) (by omega));simp only [push_cast,Nat.reduceAdd,Nat.reduceSub,Nat.reduceMul,Nat.reduceLeDiff,Nat.reduceLT,Nat.reduceEqDiff,↓reduceIte,reduceCtorEq,Int.reduceBEq,Int.reduceBNe,Nat.reduceBEq,Int.reduceLE,Int.reduceLT,Int.reduceEq,Int.reduceNe,Int.reduceNeg,Nat.reduceDiv,Nat.reduceMod,Nat.reducePow,Zk,x1,x2,x3,x4,hN0,hN]):A:=e p0 p1 p2 p3 p4
theorem Yi8 {A B:Prop} (l0:List Nat) {P1:Prop} (p1:P1) (b:B) (e:Ar l0→P1→Hid B→A:=by intro x0 x1 bZ;refine Zni x0.v (Yx Z4 [] ?_);simp only [push_cast,seval,↓reduceIte,Zk,Ar.v,x1,hN0,hN];exact bZ.get):A:=e ⟨⟩ p1 ⟨b⟩
theorem Zdt {A B:Prop} (l0:List (Option Bool)) {P1:Prop} (p1:P1) {P2:Prop} (p2:P2) {P3:Prop} (p3:P3) (b:B) (e:Ar l0→P1→P2→P3→Hid B→A:=by intro x0 x1 x2 x3 bZ;refine Yx Z4 x0.v ?_;simp only [push_cast,seval,↓reduceIte,Zk,Ar.v,x1,x2,x3,hN0,hN];exact bZ.get):A:=e ⟨⟩ p1 p2 p3 ⟨b⟩
theorem Ju {A B:Prop} (l0:List (Option Bool)) {P1:Prop} (p1:P1) {P2:Prop} (p2:P2) (b:B) (e:Ar l0→P1→P2→Hid B→A:=by intro x0 x1 x2 bZ;refine Yx Z4 x0.v ?_;simp only [push_cast,seval,↓reduceIte,Zk,Ar.v,x1,x2,hN0,hN];exact bZ.get):A:=e ⟨⟩ p1 p2 ⟨b⟩
theorem Zm1 {A B:Prop} (l0:List (Option Bool)) {P1:Prop} (p1:P1) {P2:Prop} (p2:P2) {P3:Prop} (p3:P3) {P4:Prop} (p4:P4) (b:B) (e:Ar l0→P1→P2→P3→P4→Hid B→A:=by intro x0 x1 x2 x3 x4 bZ;refine Yx Z4 x0.v ?_;simp only [push_cast,seval,↓reduceIte,Zk,Ar.v,x1,x2,x3,x4,hN0,hN];exact bZ.get):A:=e ⟨⟩ p1 p2 p3 p4 ⟨b⟩
theorem Q9 {A:Prop} {P0:Prop} (p0:P0) {P1:Prop} (p1:P1) (e:P0→P1→A:=by intro x0 x1;simp only [push_cast,seval,↓reduceIte,Zk,x0,x1,hN0,hN]):A:=e p0 p1
theorem zX2 {A B:Prop} {P0:Prop} (p0:P0) {P1:Prop} (p1:P1) (b:B) (e:P0→P1→Hid B→A:=by intro x0 x1 bZ;simp only [push_cast,seval,↓reduceIte,Zk,x0,x1,hN0,hN];exact bZ.get):A:=e p0 p1 ⟨b⟩
theorem Gl {A:Prop} {P0:Prop} (p0:P0) {P1:Prop} (p1:P1) {P2:Prop} (p2:P2) (e:P0→P1→P2→A:=by intro x0 x1 x2;have h9:=Option.some.inj x0;subst h9;refine And.intro rfl (Fit2.of (Ys hU rfl rfl ?_) (by omega));simp only [push_cast,seval,↓reduceIte,Zk,x1,x2,hN0,hN]):A:=e p0 p1 p2
theorem Yhw {A:Prop} {P0:Prop} (p0:P0) {P1:Prop} (p1:P1) {P2:Prop} (p2:P2) {P3:Prop} (p3:P3) (e:P0→P1→P2→P3→A:=by intro x0 x1 x2 x3;simp only [push_cast,seval,↓reduceIte,Zk,x0,x1,x2,x3,hN0,hN]):A:=e p0 p1 p2 p3
theorem zSe {A:Prop} (e:A:=by simp only [push_cast,seval,↓reduceIte,Zk,hN0,hN]):A:=e
theorem Z2m {A:Prop} {P0:Prop} (p0:P0) {P1:Prop} (p1:P1) {P2:Prop} (p2:P2) (e:P0→P1→P2→A:=by intro x0 x1 x2;simp only [push_cast,seval,↓reduceIte,Zk,x0,x1,x2,hN0,hN]):A:=e p0 p1 p2
theorem zS {A B:Prop} (b:B) (e:Hid B→A:=by intro bZ;simp only [push_cast,seval,↓reduceIte,Zk,hN0,hN];exact bZ.get):A:=e ⟨b⟩
theorem zO {A B:Prop} (b:B) (e:Hid B→A:=by intro bZ;(repeat (with_reducible refine And.intro (by first | omega | exact Uv rfl | exact Vf | exact Z8k rfl | exact Z2p rfl rfl | exact Ztu rfl | exact Z2o rfl) ?_));exact bZ.get):A:=e ⟨b⟩
theorem Yht {A B:Prop} (l0:List Nat) {P1:Prop} (p1:P1) {P2:Prop} (p2:P2) {P3:Prop} (p3:P3) {P4:Prop} (p4:P4) (b:B) (e:Ar l0→P1→P2→P3→P4→Hid B→A:=by intro x0 x1 x2 x3 x4 bZ;refine Zni x0.v (Yx Z4 [] ?_);simp only [push_cast,seval,↓reduceIte,Zk,Ar.v,x1,x2,x3,x4,hN0,hN];exact bZ.get):A:=e ⟨⟩ p1 p2 p3 p4 ⟨b⟩
theorem Z8f {A B:Prop} (l0:List (Option Bool)) {P1:Prop} (p1:P1) {P2:Prop} (p2:P2) {P3:Prop} (p3:P3) {P4:Prop} (p4:P4) {P5:Prop} (p5:P5) (b:B) (e:Ar l0→P1→P2→P3→P4→P5→Hid B→A:=by intro x0 x1 x2 x3 x4 x5 bZ;refine Yx Z4 x0.v ?_;simp only [push_cast,Nat.reduceAdd,Nat.reduceSub,Nat.reduceMul,Nat.reduceLeDiff,Nat.reduceLT,Nat.reduceEqDiff,↓reduceIte,reduceCtorEq,Int.reduceBEq,Int.reduceBNe,Nat.reduceBEq,Int.reduceLE,Int.reduceLT,Int.reduceEq,Int.reduceNe,Int.reduceNeg,Nat.reduceDiv,Nat.reduceMod,Nat.reducePow,Zk,Ar.v,x1,x2,x3,x4,x5,hN0,hN];exact bZ.get):A:=e ⟨⟩ p1 p2 p3 p4 p5 ⟨b⟩
theorem Yeo {A:Prop} {P0:Prop} (p0:P0) {P1:Prop} (p1:P1) {P2:Prop} (p2:P2) {P3:Prop} (p3:P3) {P4:Prop} (p4:P4) {P5:Prop} (p5:P5) (e:P0→P1→P2→P3→P4→P5→A:=by intro x0 x1 x2 x3 x4 x5;have h9:=Option.some.inj x0;subst h9;refine And.intro rfl (Fit2.of (Ys hU rfl rfl ?_) (by omega));simp only [push_cast,Nat.reduceAdd,Nat.reduceSub,Nat.reduceMul,Nat.reduceLeDiff,Nat.reduceLT,Nat.reduceEqDiff,↓reduceIte,reduceCtorEq,Int.reduceBEq,Int.reduceBNe,Nat.reduceBEq,Int.reduceLE,Int.reduceLT,Int.reduceEq,Int.reduceNe,Int.reduceNeg,Nat.reduceDiv,Nat.reduceMod,Nat.reducePow,Zk,x1,x2,x3,x4,x5,hN0,hN]):A:=e p0 p1 p2 p3 p4 p5
theorem zTs {A B:Prop} {P0:Prop} (p0:P0) (b:B) (e:P0→Hid B→A:=by intro x0 bZ;refine x0.then ?_;simp only [push_cast,seval,↓reduceIte,Zk,hN0,hN];exact bZ.get):A:=e p0 ⟨b⟩
theorem Zex {A B:Prop} (l0:List Nat) {P1:Prop} (p1:P1) {P2:Prop} (p2:P2) (b:B) (e:Ar l0→P1→P2→Hid B→A:=by intro x0 x1 x2 bZ;refine Zni x0.v (Yx Z4 [] ?_);simp only [push_cast,seval,↓reduceIte,Zk,Ar.v,x1,x2,hN0,hN];exact bZ.get):A:=e ⟨⟩ p1 p2 ⟨b⟩
theorem zF9 {A B:Prop} {P0:Prop} (p0:P0) {P1:Prop} (p1:P1) {P2:Prop} (p2:P2) {P3:Prop} (p3:P3) {P4:Prop} (p4:P4) {P5:Prop} (p5:P5) {P6:Prop} (p6:P6) {P7:Prop} (p7:P7) {P8:Prop} (p8:P8) (b:B) (e:P0→P1→P2→P3→P4→P5→P6→P7→P8→Hid B→A:=by intro x0 x1 x2 x3 x4 x5 x6 x7 x8 bZ;simp only [push_cast,Nat.reduceAdd,Nat.reduceSub,Nat.reduceMul,Nat.reduceLeDiff,Nat.reduceLT,Nat.reduceEqDiff,↓reduceIte,reduceCtorEq,Int.reduceBEq,Int.reduceBNe,Nat.reduceBEq,Int.reduceLE,Int.reduceLT,Int.reduceEq,Int.reduceNe,Int.reduceNeg,Nat.reduceDiv,Nat.reduceMod,Nat.reducePow,Zk,x0,x1,x2,x3,x4,x5,x6,x7,x8,hN0,hN];exact bZ.get):A:=e p0 p1 p2 p3 p4 p5 p6 p7 p8 ⟨b⟩
theorem Z2l {A:Prop} {P0:Prop} (p0:P0) {P1:Prop} (p1:P1) {P2:Prop} (p2:P2) {P3:Prop} (p3:P3) {P4:Prop} (p4:P4) {P5:Prop} (p5:P5) {P6:Prop} (p6:P6) {P7:Prop} (p7:P7) {P8:Prop} (p8:P8) (e:P0→P1→P2→P3→P4→P5→P6→P7→P8→A:=by intro x0 x1 x2 x3 x4 x5 x6 x7 x8;simp only [push_cast,Nat.reduceAdd,Nat.reduceSub,Nat.reduceMul,Nat.reduceLeDiff,Nat.reduceLT,Nat.reduceEqDiff,↓reduceIte,reduceCtorEq,Int.reduceBEq,Int.reduceBNe,Nat.reduceBEq,Int.reduceLE,Int.reduceLT,Int.reduceEq,Int.reduceNe,Int.reduceNeg,Nat.reduceDiv,Nat.reduceMod,Nat.reducePow,Zk,x0,x1,x2,x3,x4,x5,x6,x7,x8,hN0,hN]):A:=e p0 p1 p2 p3 p4 p5 p6 p7 p8
theorem zXt {A B:Prop} (b:B) (e:Hid B→A:=by intro bZ;refine Z9f ?_;(try simp only [Y2,Z7,↓reduceIte,Nat.reduceEqDiff]);exact bZ.get):A:=e ⟨b⟩
theorem zRo {A B:Prop} (l0:List (Option Bool)) (b:B) (e:Ar l0→Hid B→A:=by intro x0 bZ;refine Yx Z4 x0.v ?_;simp only [push_cast,seval,↓reduceIte,Zk,Ar.v,hN0,hN];exact bZ.get):A:=e ⟨⟩ ⟨b⟩
theorem zF5 {A B:Prop} {P0:Prop} (p0:P0) {P1:Prop} (p1:P1) {P2:Prop} (p2:P2) {P3:Prop} (p3:P3) {P4:Prop} (p4:P4) (b:B) (e:P0→P1→P2→P3→P4→Hid B→A:=by intro x0 x1 x2 x3 x4 bZ;simp only [push_cast,Nat.reduceAdd,Nat.reduceSub,Nat.reduceMul,Nat.reduceLeDiff,Nat.reduceLT,Nat.reduceEqDiff,↓reduceIte,reduceCtorEq,Int.reduceBEq,Int.reduceBNe,Nat.reduceBEq,Int.reduceLE,Int.reduceLT,Int.reduceEq,Int.reduceNe,Int.reduceNeg,Nat.reduceDiv,Nat.reduceMod,Nat.reducePow,Zk,x0,x1,x2,x3,x4,hN0,hN];exact bZ.get):A:=e p0 p1 p2 p3 p4 ⟨b⟩
theorem Z9b {A:Prop} {P0:Prop} (p0:P0) (e:P0→A:=by intro x0;simp only [push_cast,seval,↓reduceIte,Zk,x0,hN0,hN]):A:=e p0
theorem Z8g {A B:Prop} (l0:List (Option Bool)) {P1:Prop} (p1:P1) {P2:Prop} (p2:P2) {P3:Prop} (p3:P3) {P4:Prop} (p4:P4) {P5:Prop} (p5:P5) {P6:Prop} (p6:P6) (b:B) (e:Ar l0→P1→P2→P3→P4→P5→P6→Hid B→A:=by intro x0 x1 x2 x3 x4 x5 x6 bZ;refine Yx Z4 x0.v ?_;simp only [push_cast,seval,↓reduceIte,Zk,Ar.v,x1,x2,x3,x4,x5,x6,hN0,hN];exact bZ.get):A:=e ⟨⟩ p1 p2 p3 p4 p5 p6 ⟨b⟩
theorem Yeq {A:Prop} {P0:Prop} (p0:P0) {P1:Prop} (p1:P1) {P2:Prop} (p2:P2) {P3:Prop} (p3:P3) {P4:Prop} (p4:P4) {P5:Prop} (p5:P5) {P6:Prop} (p6:P6) (e:P0→P1→P2→P3→P4→P5→P6→A:=by intro x0 x1 x2 x3 x4 x5 x6;have h9:=Option.some.inj x0;subst h9;refine And.intro rfl (Fit2.of (Ys hU rfl rfl ?_) (by omega));simp only [push_cast,seval,↓reduceIte,Zk,x1,x2,x3,x4,x5,x6,hN0,hN]):A:=e p0 p1 p2 p3 p4 p5 p6
theorem zX6 {A B:Prop} {P0:Prop} (p0:P0) {P1:Prop} (p1:P1) {P2:Prop} (p2:P2) {P3:Prop} (p3:P3) {P4:Prop} (p4:P4) {P5:Prop} (p5:P5) (b:B) (e:P0→P1→P2→P3→P4→P5→Hid B→A:=by intro x0 x1 x2 x3 x4 x5 bZ;simp only [push_cast,seval,↓reduceIte,Zk,x0,x1,x2,x3,x4,x5,hN0,hN];exact bZ.get):A:=e p0 p1 p2 p3 p4 p5 ⟨b⟩
theorem Zys {A B:Prop} (l0:List (Option Bool)) {P1:Prop} (p1:P1) {P2:Prop} (p2:P2) {P3:Prop} (p3:P3) {P4:Prop} (p4:P4) {P5:Prop} (p5:P5) (b:B) (e:Ar l0→P1→P2→P3→P4→P5→Hid B→A:=by intro x0 x1 x2 x3 x4 x5 bZ;refine Yx Z4 x0.v ?_;simp only [push_cast,seval,↓reduceIte,Zk,Ar.v,x1,x2,x3,x4,x5,hN0,hN];exact bZ.get):A:=e ⟨⟩ p1 p2 p3 p4 p5 ⟨b⟩
theorem Yhr {A:Prop} {P0:Prop} (p0:P0) {P1:Prop} (p1:P1) {P2:Prop} (p2:P2) (e:P0→P1→P2→A:=by intro x0 x1 x2;simp only [push_cast,Nat.reduceAdd,Nat.reduceSub,Nat.reduceMul,Nat.reduceLeDiff,Nat.reduceLT,Nat.reduceEqDiff,↓reduceIte,reduceCtorEq,Int.reduceBEq,Int.reduceBNe,Nat.reduceBEq,Int.reduceLE,Int.reduceLT,Int.reduceEq,Int.reduceNe,Int.reduceNeg,Nat.reduceDiv,Nat.reduceMod,Nat.reducePow,Zk,x0,x1,x2,hN0,hN]):A:=e p0 p1 p2
theorem Yi7 {A B:Prop} {P0:Prop} (p0:P0) {P1:Prop} (p1:P1) {P2:Prop} (p2:P2) {P3:Prop} (p3:P3) {P4:Prop} (p4:P4) {P5:Prop} (p5:P5) {P6:Prop} (p6:P6) {P7:Prop} (p7:P7) {P8:Prop} (p8:P8) {P9:Prop} (p9:P9) {P10:Prop} (p10:P10) (b:B) (e:P0→P1→P2→P3→P4→P5→P6→P7→P8→P9→P10→Hid B→A:=by intro x0 x1 x2 x3 x4 x5 x6 x7 x8 x9 x10 bZ;simp only [push_cast,Nat.reduceAdd,Nat.reduceSub,Nat.reduceMul,Nat.reduceLeDiff,Nat.reduceLT,Nat.reduceEqDiff,↓reduceIte,reduceCtorEq,Int.reduceBEq,Int.reduceBNe,Nat.reduceBEq,Int.reduceLE,Int.reduceLT,Int.reduceEq,Int.reduceNe,Int.reduceNeg,Nat.reduceDiv,Nat.reduceMod,Nat.reducePow,Zk,x0,x1,x2,x3,x4,x5,x6,x7,x8,x9,x10,hN0,hN];exact bZ.get):A:=e p0 p1 p2 p3 p4 p5 p6 p7 p8 p9 p10 ⟨b⟩
theorem Yhq {A:Prop} {P0:Prop} (p0:P0) {P1:Prop} (p1:P1) {P2:Prop} (p2:P2) {P3:Prop} (p3:P3) {P4:Prop} (p4:P4) {P5:Prop} (p5:P5) {P6:Prop} (p6:P6) {P7:Prop} (p7:P7) {P8:Prop} (p8:P8) {P9:Prop} (p9:P9) {P10:Prop} (p10:P10) (e:P0→P1→P2→P3→P4→P5→P6→P7→P8→P9→P10→A:=by intro x0 x1 x2 x3 x4 x5 x6 x7 x8 x9 x10;simp only [push_cast,Nat.reduceAdd,Nat.reduceSub,Nat.reduceMul,Nat.reduceLeDiff,Nat.reduceLT,Nat.reduceEqDiff,↓reduceIte,reduceCtorEq,Int.reduceBEq,Int.reduceBNe,Nat.reduceBEq,Int.reduceLE,Int.reduceLT,Int.reduceEq,Int.reduceNe,Int.reduceNeg,Nat.reduceDiv,Nat.reduceMod,Nat.reducePow,Zk,x0,x1,x2,x3,x4,x5,x6,x7,x8,x9,x10,hN0,hN]):A:=e p0 p1 p2 p3 p4 p5 p6 p7 p8 p9 p10
theorem Yi6 {A B:Prop} {P0:Prop} (p0:P0) {P1:Prop} (p1:P1) {P2:Prop} (p2:P2) {P3:Prop} (p3:P3) {P4:Prop} (p4:P4) {P5:Prop} (p5:P5) {P6:Prop} (p6:P6) {P7:Prop} (p7:P7) {P8:Prop} (p8:P8) {P9:Prop} (p9:P9) (b:B) (e:P0→P1→P2→P3→P4→P5→P6→P7→P8→P9→Hid B→A:=by intro x0 x1 x2 x3 x4 x5 x6 x7 x8 x9 bZ;simp only [push_cast,Nat.reduceAdd,Nat.reduceSub,Nat.reduceMul,Nat.reduceLeDiff,Nat.reduceLT,Nat.reduceEqDiff,↓reduceIte,reduceCtorEq,Int.reduceBEq,Int.reduceBNe,Nat.reduceBEq,Int.reduceLE,Int.reduceLT,Int.reduceEq,Int.reduceNe,Int.reduceNeg,Nat.reduceDiv,Nat.reduceMod,Nat.reducePow,Zk,x0,x1,x2,x3,x4,x5,x6,x7,x8,x9,hN0,hN];exact bZ.get):A:=e p0 p1 p2 p3 p4 p5 p6 p7 p8 p9 ⟨b⟩
theorem Yhp {A:Prop} {P0:Prop} (p0:P0) {P1:Prop} (p1:P1) {P2:Prop} (p2:P2) {P3:Prop} (p3:P3) {P4:Prop} (p4:P4) {P5:Prop} (p5:P5) {P6:Prop} (p6:P6) {P7:Prop} (p7:P7) {P8:Prop} (p8:P8) {P9:Prop} (p9:P9) (e:P0→P1→P2→P3→P4→P5→P6→P7→P8→P9→A:=by intro x0 x1 x2 x3 x4 x5 x6 x7 x8 x9;simp only [push_cast,Nat.reduceAdd,Nat.reduceSub,Nat.reduceMul,Nat.reduceLeDiff,Nat.reduceLT,Nat.reduceEqDiff,↓reduceIte,reduceCtorEq,Int.reduceBEq,Int.reduceBNe,Nat.reduceBEq,Int.reduceLE,Int.reduceLT,Int.reduceEq,Int.reduceNe,Int.reduceNeg,Nat.reduceDiv,Nat.reduceMod,Nat.reducePow,Zk,x0,x1,x2,x3,x4,x5,x6,x7,x8,x9,hN0,hN]):A:=e p0 p1 p2 p3 p4 p5 p6 p7 p8 p9
theorem zF6 {A B:Prop} {P0:Prop} (p0:P0) {P1:Prop} (p1:P1) {P2:Prop} (p2:P2) {P3:Prop} (p3:P3) {P4:Prop} (p4:P4) {P5:Prop} (p5:P5) (b:B) (e:P0→P1→P2→P3→P4→P5→Hid B→A:=by intro x0 x1 x2 x3 x4 x5 bZ;simp only [push_cast,Nat.reduceAdd,Nat.reduceSub,Nat.reduceMul,Nat.reduceLeDiff,Nat.reduceLT,Nat.reduceEqDiff,↓reduceIte,reduceCtorEq,Int.reduceBEq,Int.reduceBNe,Nat.reduceBEq,Int.reduceLE,Int.reduceLT,Int.reduceEq,Int.reduceNe,Int.reduceNeg,Nat.reduceDiv,Nat.reduceMod,Nat.reducePow,Zk,x0,x1,x2,x3,x4,x5,hN0,hN];exact bZ.get):A:=e p0 p1 p2 p3 p4 p5 ⟨b⟩
theorem Yhx {A:Prop} {P0:Prop} (p0:P0) {P1:Prop} (p1:P1) {P2:Prop} (p2:P2) {P3:Prop} (p3:P3) {P4:Prop} (p4:P4) (e:P0→P1→P2→P3→P4→A:=by intro x0 x1 x2 x3 x4;simp only [push_cast,seval,↓reduceIte,Zk,x0,x1,x2,x3,x4,hN0,hN]):A:=e p0 p1 p2 p3 p4
theorem Yhu {A B:Prop} (l0:List (Option Bool)) {P1:Prop} (p1:P1) {P2:Prop} (p2:P2) {P3:Prop} (p3:P3) {P4:Prop} (p4:P4) {P5:Prop} (p5:P5) {P6:Prop} (p6:P6) (b:B) (e:Ar l0→P1→P2→P3→P4→P5→P6→Hid B→A:=by intro x0 x1 x2 x3 x4 x5 x6 bZ;refine Yx Z4 x0.v ?_;simp only [push_cast,Nat.reduceAdd,Nat.reduceSub,Nat.reduceMul,Nat.reduceLeDiff,Nat.reduceLT,Nat.reduceEqDiff,↓reduceIte,reduceCtorEq,Int.reduceBEq,Int.reduceBNe,Nat.reduceBEq,Int.reduceLE,Int.reduceLT,Int.reduceEq,Int.reduceNe,Int.reduceNeg,Nat.reduceDiv,Nat.reduceMod,Nat.reducePow,Zk,Ar.v,x1,x2,x3,x4,x5,x6,hN0,hN];exact bZ.get):A:=e ⟨⟩ p1 p2 p3 p4 p5 p6 ⟨b⟩
theorem Yhs {A:Prop} {P0:Prop} (p0:P0) {P1:Prop} (p1:P1) {P2:Prop} (p2:P2) {P3:Prop} (p3:P3) {P4:Prop} (p4:P4) {P5:Prop} (p5:P5) (e:P0→P1→P2→P3→P4→P5→A:=by intro x0 x1 x2 x3 x4 x5;simp only [push_cast,Nat.reduceAdd,Nat.reduceSub,Nat.reduceMul,Nat.reduceLeDiff,Nat.reduceLT,Nat.reduceEqDiff,↓reduceIte,reduceCtorEq,Int.reduceBEq,Int.reduceBNe,Nat.reduceBEq,Int.reduceLE,Int.reduceLT,Int.reduceEq,Int.reduceNe,Int.reduceNeg,Nat.reduceDiv,Nat.reduceMod,Nat.reducePow,Zk,x0,x1,x2,x3,x4,x5,hN0,hN]):A:=e p0 p1 p2 p3 p4 p5
theorem zEf {A:Prop} (e:A:=by refine And.intro rfl (Fit2.of (Ys hU rfl rfl ?_) (by omega));simp only [push_cast,seval,↓reduceIte,Zk,hN0,hN]):A:=e
theorem Yhv {A B:Prop} (l0:List (Option Bool)) {P1:Prop} (p1:P1) {P2:Prop} (p2:P2) {P3:Prop} (p3:P3) {P4:Prop} (p4:P4) {P5:Prop} (p5:P5) {P6:Prop} (p6:P6) {P7:Prop} (p7:P7) (b:B) (e:Ar l0→P1→P2→P3→P4→P5→P6→P7→Hid B→A:=by intro x0 x1 x2 x3 x4 x5 x6 x7 bZ;refine Yx Z4 x0.v ?_;simp only [push_cast,seval,↓reduceIte,Zk,Ar.v,x1,x2,x3,x4,x5,x6,x7,hN0,hN];exact bZ.get):A:=e ⟨⟩ p1 p2 p3 p4 p5 p6 p7 ⟨b⟩
end Go.Proofs.Ytfjkcekfifobpaa
