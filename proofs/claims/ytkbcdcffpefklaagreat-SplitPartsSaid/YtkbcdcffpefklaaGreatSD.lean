/- Part SD of this seat's mirrors: functions of the seat's program, and the plain functions that they are; each theorem bears its own conditions. -/
import Derived.Test.YtkbcdcffpefklaaGreatH27
import Derived.Test.YtkbcdcffpefklaaGreatTy
namespace Go.Proofs.YtkbcdcffpefklaaGreat
open Go.RowKit
set_option linter.unusedVariables false
set_option linter.unusedSimpArgs false
set_option maxRecDepth 100000
set_option maxHeartbeats 4000000
structure Zc where
 Kind:Int
 Words:(List Int)
 Kids:(List Zc)
noncomputable def X7 (Qg:(Zc→Int→Int→Option Int)) (a0:Zc) (a1:Int) (s0_:(Int×Int)):Option ((Int×Int) ⊕ Int) :=
 cond (cond (decide (s0_.2 < (a0.Kids.length:Int))) (decide (0≤s0_.1)) false) ((Yx a0.Kids s0_.2).bind fun x1=>(Qg x1 (IntKind.i64.wrap (a1 - 1)) s0_.1).bind fun y2=>some (.inl (y2,(IntKind.i64.wrap (s0_.2+1))))) (some (.inr s0_.1))
noncomputable def Qe (Qg:(Zc→Int→Int→Option Int)) (a0:Zc) (a1:Int) (a2:Int):Option Int :=
 cond (cond (a1 == 0) true (decide ((IntKind.i64.wrap ((IntKind.i64.wrap (a2 - 1)) - (a0.Words.length:Int))) < 0))) (some (-1)) ((Zs (X7 Qg a0 a1) ((IntKind.i64.wrap ((IntKind.i64.wrap (a2 - 1)) - (a0.Words.length:Int))),0)).bind fun (z4:Int)=>some z4)
noncomputable def Y1:Nat→(Zc→Int→Int→Option Int)
 | 0=>(fun _ _ _=>none)
 | k+1=>Qe ((Y1 k))
noncomputable def J7 (a0:Zc) (a1:Int) (a2:Int):Option Int:=lim fun k=>(Y1 k) a0 a1 a2
structure Zu where
 At:Int
 Mask:Int
 Old:Int
 New:Int
mutual
structure Zb where
 Kind:Int
 Old:Zc
 New:Zc
 Words:(List Zu)
 Kids:(List Zj)
 List_:Int
 Ops:(List Zg)
structure Zj where
 At:Int
 E:Zb
structure Zg where
 Kind:Int
 N:Int
 L:(List Zc)
 E:Zb
end
noncomputable def Qw (Xx:(Zb→Int→Int→Option Int)) (a0:Zb) (a1:Int) (s0_:(Int×Int)):Option ((Int×Int) ⊕ Int) :=
 cond (cond (decide (s0_.2 < (a0.Kids.length:Int))) (decide (0≤s0_.1)) false) ((Yx a0.Kids s0_.2).bind fun x6=>(Xx x6.E (IntKind.i64.wrap (a1 - 1)) s0_.1).bind fun y8=>some (.inl (y8,(IntKind.i64.wrap (s0_.2+1))))) (some (.inr s0_.1))
noncomputable def Vx (a0:Zb) (s1_:(Int×Int)) (s2_:(Int×Int)):Option ((Int×Int) ⊕ Int) :=
 (Yx a0.Ops s1_.2).bind fun x14=>cond (cond (decide (s2_.2 < (x14.L.length:Int))) (decide (0≤s2_.1)) false) ((Yx a0.Ops s1_.2).bind fun x16=>(Yx x16.L s2_.2).bind fun x18=>(J7 x18 80 s2_.1).bind fun y19=>some (.inl (y19,(IntKind.i64.wrap (s2_.2+1))))) (some (.inr s2_.1))
noncomputable def Qx (Xx:(Zb→Int→Int→Option Int)) (a0:Zb) (a1:Int) (s1_:(Int×Int)):Option ((Int×Int) ⊕ Int) :=
 cond (cond (decide (s1_.2 < (a0.Ops.length:Int))) (decide (0≤s1_.1)) false) (((Zs (Vx a0 s1_) (s1_.1,0)).bind fun (z21:Int)=>cond (decide (0≤z21)) ((Yx a0.Ops s1_.2).bind fun x22=>(Xx x22.E (IntKind.i64.wrap (a1 - 1)) z21).bind fun y24=>some y24) (some z21)).bind fun (z11:Int)=>some (.inl (z11,(IntKind.i64.wrap (s1_.2+1))))) (some (.inr s1_.1))
noncomputable def Jh (Xx:(Zb→Int→Int→Option Int)) (a0:Zb) (a1:Int) (a2:Int):Option Int :=
 cond (cond (a1 == 0) true (decide ((IntKind.i64.wrap ((IntKind.i64.wrap ((IntKind.i64.wrap (a2 - 1)) - (a0.Words.length:Int))) - (a0.Ops.length:Int))) < 0))) (some (-1)) ((J7 a0.Old 80 (IntKind.i64.wrap ((IntKind.i64.wrap ((IntKind.i64.wrap (a2 - 1)) - (a0.Words.length:Int))) - (a0.Ops.length:Int)))).bind fun y2=>(cond (decide (0≤y2)) ((J7 a0.New 80 y2).bind fun y4=>some y4) (some y2)).bind fun (z3:Int)=>(Zs (Qw Xx a0 a1) (z3,0)).bind fun (z10:Int)=>(Zs (Qx Xx a0 a1) (z10,0)).bind fun (z27:Int)=>some z27)
noncomputable def Ys:Nat→(Zb→Int→Int→Option Int)
 | 0=>(fun _ _ _=>none)
 | k+1=>Jh ((Ys k))
noncomputable def Zgz (a0:Zb) (a1:Int) (a2:Int):Option Int:=lim fun k=>(Ys k) a0 a1 a2
noncomputable def Zcm (a0:Zb):Option Bool :=
 (Zgz a0 80 3000).bind fun y2=>some (decide (0≤y2))
noncomputable def Ji (a0:Zc):Option Bool :=
 some (cond (a0.Kind == 0) ((IntKind.i64.wrap ((a0.Words.length:Int)+(a0.Kids.length:Int))) == 0) false)
noncomputable def Zfw (a0:Int):Option Int :=
 cond (a0 == 0) (some 0) (cond (a0 == 1) (some 1) (cond (a0 == 2) (some 8) (cond (a0 == 3) (some 16) (cond (a0 == 4) (some 32) (cond (a0 == 5) (some 64) (some (-1)))))))
noncomputable def Qf (y2:Int) (s0_:(Int×Int)):Option ((Int×Int) ⊕ Int) :=
 cond (decide (s0_.2 < y2)) (some (.inl ((IntKind.u64.wrap (Int.tdiv s0_.1 2)),(IntKind.i64.wrap (s0_.2+1))))) (some (.inr s0_.1))
noncomputable def Uf (a0:Int) (a1:Int):Option Bool :=
 (Zfw a0).bind fun y2=>cond (decide (y2 < 0)) (some false) ((Zs (Qf y2) (a1,0)).bind fun (z4:Int)=>some (z4 == 0))
noncomputable def K6 (Q2:(Zc→Int→Option Bool)) (a0:Zc) (a1:Int) (s0_:Int):Option (Int ⊕ (Unit ⊕ Unit)) :=
 cond (decide (s0_ < (a0.Kids.length:Int))) ((Yx a0.Kids s0_).bind fun x2=>(Q2 x2 (IntKind.i64.wrap (a1 - 1))).bind fun y4=>cond (!y4) (some (.inr (.inl ()))) ((cond ((cond (decide (2≤a0.Kind)) (decide (a0.Kind≤7)) false) != (x2.Kind == 10)) (some true) (cond (a0.Kind == 9) (cond (x2.Kind != 1) (some true) (cond (decide (2≤a0.Kind)) (cond (decide (a0.Kind≤7)) ((Yx x2.Words 0).bind fun x14=>(Uf (IntKind.i64.wrap (a0.Kind - 2)) x14).bind fun y15=>some (cond (cond ((cond (decide (2≤a0.Kind)) (decide (a0.Kind≤7)) false) != (x2.Kind == 10)) true (cond (a0.Kind == 9) (x2.Kind != 1) false)) true (cond (cond (decide (2≤a0.Kind)) (decide (a0.Kind≤7)) false) (!y15) false))) (some (cond (cond ((cond (decide (2≤a0.Kind)) (decide (a0.Kind≤7)) false) != (x2.Kind == 10)) true (cond (a0.Kind == 9) (x2.Kind != 1) false)) true false))) (some (cond (cond ((cond (decide (2≤a0.Kind)) (decide (a0.Kind≤7)) false) != (x2.Kind == 10)) true (cond (a0.Kind == 9) (x2.Kind != 1) false)) true false)))) (cond (decide (2≤a0.Kind)) (cond (decide (a0.Kind≤7)) ((Yx x2.Words 0).bind fun x16=>(Uf (IntKind.i64.wrap (a0.Kind - 2)) x16).bind fun y17=>some (cond (cond ((cond (decide (2≤a0.Kind)) (decide (a0.Kind≤7)) false) != (x2.Kind == 10)) true (cond (a0.Kind == 9) (x2.Kind != 1) false)) true (cond (cond (decide (2≤a0.Kind)) (decide (a0.Kind≤7)) false) (!y17) false))) (some (cond (cond ((cond (decide (2≤a0.Kind)) (decide (a0.Kind≤7)) false) != (x2.Kind == 10)) true (cond (a0.Kind == 9) (x2.Kind != 1) false)) true false))) (some (cond (cond ((cond (decide (2≤a0.Kind)) (decide (a0.Kind≤7)) false) != (x2.Kind == 10)) true (cond (a0.Kind == 9) (x2.Kind != 1) false)) true false))))).bind fun (z9:Bool)=>cond z9 (some (.inr (.inl ()))) (some (.inl (IntKind.i64.wrap (s0_+1)))))) (some (.inr (.inr ())))
noncomputable def Gi (Q2:(Zc→Int→Option Bool)) (a0:Zc) (a1:Int):Option Bool :=
 cond (a0.Kind == 0) (some (cond ((a0.Words.length:Int) == 0) ((a0.Kids.length:Int) == 0) false)) (cond (a0.Kind == 10) (some (cond ((a0.Words.length:Int) == 1) ((a0.Kids.length:Int) == 0) false)) (cond (cond (cond (cond (cond (cond (decide (a0.Kind < 0)) true (decide (10 < a0.Kind))) true (a1 == 0)) true (decide (65536≤(a0.Words.length:Int)))) true (cond (a0.Kind == 1) (decide (65536≤(a0.Kids.length:Int))) false)) true (decide (1048576≤(a0.Kids.length:Int)))) (some false) (cond (cond (decide (1 < a0.Kind)) (decide (0 < (a0.Words.length:Int))) false) (some false) ((Zs (K6 Q2 a0 a1) 0).bind fun (z28:(Unit ⊕ Unit))=>match z28 with | .inl z28=>some false | .inr z28=>some true))))
noncomputable def Jc:Nat→(Zc→Int→Option Bool)
 | 0=>(fun _ _=>none)
 | k+1=>Gi ((Jc k))
noncomputable def Gv (a0:Zc) (a1:Int):Option Bool:=lim fun k=>(Jc k) a0 a1
noncomputable def Ve (s0_:(Int×Int×(Arr Int 8))):Option ((Int×Int×(Arr Int 8)) ⊕ (Arr Int 8)) :=
 cond (decide (s0_.2.1 < 8)) ((Yx s0_.2.2.1 s0_.2.1).bind fun x15=>some (.inl ((IntKind.u64.wrap (Int.tdiv s0_.1 256)),(IntKind.i64.wrap (s0_.2.1+1)),(Arr.put s0_.2.2 s0_.2.1 (IntKind.u8.wrap (Int.tmod s0_.1 256)))))) (some (.inr s0_.2.2))
noncomputable def Vi (a0:Int):Option (Arr Int 8) :=
 ((some (⟨[0,0,0,0,0,0,0,0],rfl⟩:(Arr Int 8)))).bind fun y3=>((some (⟨[0,0,0,0,0,0,0,0],rfl⟩:(Arr Int 8)))).bind fun y9=>(Zs (Ve) (a0,0,y9)).bind fun (z18:(Arr Int 8))=>some z18
noncomputable def Jp (a1:Int) (s0_:(Int×Int)):Option ((Int×Int) ⊕ Int) :=
 cond (decide (s0_.2 < a1)) (some (.inl ((IntKind.u8.wrap (Int.tdiv s0_.1 2)),(IntKind.i64.wrap (s0_.2+1))))) (some (.inr s0_.1))
noncomputable def Gt (a0:Int) (a1:Int):Option Bool :=
 (Zs (Jp a1) (a0,0)).bind fun (z2:Int)=>some ((Int.tmod z2 2) == 1)
noncomputable def Gu (a0:(List Int)) (a1:Int) (s0_:(Int×Int)):Option ((Int×Int) ⊕ Int) :=
 cond (decide (0≤s0_.2)) ((Yx a0 (IntKind.i64.wrap (a1+s0_.2))).bind fun x1=>some (.inl ((IntKind.u64.wrap ((IntKind.u64.wrap (s0_.1 * 256))+(IntKind.u64.wrap x1))),(IntKind.i64.wrap (s0_.2 - 1))))) (some (.inr s0_.1))
noncomputable def Zfs (a0:(List Int)) (a1:Int):Option Int :=
 (Zs (Gu a0 a1) (0,7)).bind fun (z3:Int)=>some z3
noncomputable def Uy (a2:Int) (y9:(Arr Int 8)) (s0_:(Int×(Arr Int 8))):Option ((Int×(Arr Int 8)) ⊕ (Arr Int 8)) :=
 cond (decide (s0_.1 < 8)) (((Gt a2 s0_.1).bind fun y17=>cond y17 ((Yx y9.1 s0_.1).bind fun x18=>(Yx s0_.2.1 s0_.1).bind fun x19=>some (Arr.put s0_.2 s0_.1 x18)) (some s0_.2)).bind fun (z15:(Arr Int 8))=>some (.inl ((IntKind.i64.wrap (s0_.1+1)),z15))) (some (.inr s0_.2))
noncomputable def Zcl (a0:Int) (a1:Int) (a2:Int):Option Int :=
 (Vi a0).bind fun y8=>(Vi a1).bind fun y9=>((some (⟨[0,0,0,0,0,0,0,0],rfl⟩:(Arr Int 8)))).bind fun y10=>(Zs (Uy a2 y9) (0,y8)).bind fun (z23:(Arr Int 8))=>(Zfs z23.1 0).bind fun y29=>some y29
noncomputable def Ku (a0:Int) (a1:Int):Option Bool :=
 (Zcl a0 0 a1).bind fun y2=>some (y2 == 0)
noncomputable def Ug (a0:Zb):Option Bool :=
 (cond (a0.Kind == 0) ((Ji a0.Old).bind fun y6=>cond y6 ((Ji a0.New).bind fun y7=>some (cond (cond (cond (cond (a0.Kind == 0) y6 false) y7 false) ((IntKind.i64.wrap ((IntKind.i64.wrap ((a0.Words.length:Int)+(a0.Kids.length:Int)))+(a0.Ops.length:Int))) == 0) false) (a0.List_ == 0) false)) (some false)) (some false)).bind fun (z3:Bool)=>some z3
noncomputable def J9 (a0:Zb) (s0_:(Int×Int×Int)):Option ((Int×Int×Int) ⊕ (Int×Int)) :=
 cond (decide (s0_.2.2 < (a0.Ops.length:Int))) (((Yx a0.Ops s0_.2.2).bind fun x3=>(cond (x3.Kind == 3) (some 1) (some (IntKind.i64.wrap (x3.N+(x3.L.length:Int))))).bind fun (z4:Int)=>(cond (x3.Kind != 2) (some (IntKind.i64.wrap (s0_.1+z4))) (some s0_.1)).bind fun (z6:Int)=>(cond (x3.Kind != 1) (some (IntKind.i64.wrap (s0_.2.1+z4))) (some s0_.2.1)).bind fun (z8:Int)=>(cond (decide (1048576 < z6)) (some 1048576) (some z6)).bind fun (z10:Int)=>cond (decide (1048576 < z8)) (some (z10,1048576)) (some (z10,z8))).bind fun (z1:(Int×Int))=>some (.inl (z1.1,z1.2,(IntKind.i64.wrap (s0_.2.2+1))))) (some (.inr (s0_.1,s0_.2.1)))
noncomputable def J8 (a0:Zb):Option (Int×Int) :=
 (Zs (J9 a0) (0,0,0)).bind fun (z14:(Int×Int))=>some (z14.1,z14.2)
noncomputable def Jm (a0:Zb) (s0_:(Int×Int)):Option ((Int×Int) ⊕ (Unit ⊕ Unit)) :=
 cond (decide (s0_.2 < (a0.Words.length:Int))) ((Yx a0.Words s0_.2).bind fun x19=>(cond (decide (x19.At≤s0_.1)) (some true) (cond (decide (65534 < x19.At)) (some true) (cond (x19.Mask == 0) (some true) ((Ku x19.Old x19.Mask).bind fun y25=>cond y25 ((Ku x19.New x19.Mask).bind fun y26=>some (cond (cond (cond (cond (decide (x19.At≤s0_.1)) true (decide (65534 < x19.At))) true (x19.Mask == 0)) true (!y25)) true (!y26))) (some true))))).bind fun (z22:Bool)=>cond z22 (some (.inr (.inl ()))) (some (.inl (x19.At,(IntKind.i64.wrap (s0_.2+1)))))) (some (.inr (.inr ())))
noncomputable def Jn (Xd:(Zb→Int→Option Bool)) (a0:Zb) (a1:Int) (s1_:(Int×Int)):Option ((Int×Int) ⊕ (Unit ⊕ Unit)) :=
 cond (decide (s1_.2 < (a0.Kids.length:Int))) ((Yx a0.Kids s1_.2).bind fun x35=>(cond (decide (x35.At≤s1_.1)) (some true) (cond (decide (65534 < x35.At)) (some true) (cond (x35.E.Kind == 0) (some true) ((Xd x35.E (IntKind.i64.wrap (a1 - 1))).bind fun y39=>some (cond (cond (cond (decide (x35.At≤s1_.1)) true (decide (65534 < x35.At))) true (x35.E.Kind == 0)) true (!y39)))))).bind fun (z37:Bool)=>cond z37 (some (.inr (.inl ()))) (some (.inl (x35.At,(IntKind.i64.wrap (s1_.2+1)))))) (some (.inr (.inr ())))
noncomputable def Qo (X6:(Int→Zg→Int→Option Bool)) (a0:Zb) (a1:Int) (s2_:Int):Option (Int ⊕ (Unit ⊕ Unit)) :=
 cond (decide (s2_ < (a0.Ops.length:Int))) ((Yx a0.Ops s2_).bind fun x48=>(X6 a0.List_ x48 (IntKind.i64.wrap (a1 - 1))).bind fun y49=>cond (!y49) (some (.inr (.inl ()))) (some (.inl (IntKind.i64.wrap (s2_+1))))) (some (.inr (.inr ())))
noncomputable def Gl (Xd:(Zb→Int→Option Bool)) (X6:(Int→Zg→Int→Option Bool)) (a0:Zb) (a1:Int):Option Bool :=
 cond (cond (cond (a1 == 0) true (decide (a0.Kind < 0))) true (decide (3 < a0.Kind))) (some false) ((cond (a0.Kind != 1) ((Ji a0.Old).bind fun y6=>cond y6 ((Ji a0.New).bind fun y7=>some (cond (cond (cond (a0.Kind != 1) (!(cond y6 y7 false)) false) true (cond (a0.Kind != 2) (decide (0 < (IntKind.i64.wrap ((a0.Words.length:Int)+(a0.Kids.length:Int))))) false)) true (cond (a0.Kind != 3) (cond (a0.List_ != 0) true (decide (0 < (a0.Ops.length:Int)))) false))) (some true)) (some (cond (cond (a0.Kind != 2) (decide (0 < (IntKind.i64.wrap ((a0.Words.length:Int)+(a0.Kids.length:Int))))) false) true (cond (a0.Kind != 3) (cond (a0.List_ != 0) true (decide (0 < (a0.Ops.length:Int)))) false)))).bind fun (z3:Bool)=>cond z3 (some false) (cond (a0.Kind == 1) (((Gv a0.Old 64).bind fun y15=>cond y15 ((Gv a0.New 64).bind fun y16=>some (cond (cond (cond y15 y16 false) (a0.Old.Kind != 10) false) (a0.New.Kind != 10) false)) (some false)).bind fun (z12:Bool)=>some z12) ((Zs (Jm a0) ((-1),0)).bind fun (z33:(Unit ⊕ Unit))=>match z33 with | .inl z33=>some false | .inr z33=>(Zs (Jn Xd a0 a1) ((-1),0)).bind fun (z45:(Unit ⊕ Unit))=>match z45 with | .inl z45=>some false | .inr z45=>cond (cond (a0.Kind == 3) (cond (decide (a0.List_ < 2)) true (decide (9 < a0.List_))) false) (some false) ((Zs (Qo X6 a0 a1) 0).bind fun (z52:(Unit ⊕ Unit))=>match z52 with | .inl z52=>some false | .inr z52=>(J8 a0).bind fun y54=>some (cond (decide (y54.1 < 1048576)) (decide (y54.2 < 1048576)) false)))))
noncomputable def Gm (a0:Int) (a1:Zg) (s0_:Int):Option (Int ⊕ (Unit ⊕ Unit)) :=
 cond (decide (s0_ < (a1.L.length:Int))) ((Zik a1.L s0_ (IntKind.i64.wrap (s0_+1))).bind fun l10=>(Gv (⟨a0,[],l10⟩:Zc) 64).bind fun y11=>cond (!y11) (some (.inr (.inl ()))) (some (.inl (IntKind.i64.wrap (s0_+1))))) (some (.inr (.inr ())))
noncomputable def Zda (Xd:(Zb→Int→Option Bool)) (X6:(Int→Zg→Int→Option Bool)) (a0:Int) (a1:Zg) (a2:Int):Option Bool :=
 cond (a1.Kind == 0) ((cond (decide (1≤a1.N)) (cond (decide (a1.N≤1048576)) (cond ((a1.L.length:Int) == 0) ((Ug a1.E).bind fun y4=>some (cond (cond (cond (decide (1≤a1.N)) (decide (a1.N≤1048576)) false) ((a1.L.length:Int) == 0) false) y4 false)) (some false)) (some false)) (some false)).bind fun (z2:Bool)=>some z2) (cond (cond (cond (a1.N != 0) true (decide (a1.Kind < 0))) true (decide (3 < a1.Kind))) (some false) (cond (decide (a1.Kind < 3)) ((Zs (Gm a0 a1) 0).bind fun (z14:(Unit ⊕ Unit))=>match z14 with | .inl z14=>some false | .inr z14=>(cond (decide (0 < (a1.L.length:Int))) ((Ug a1.E).bind fun y18=>some (cond (decide (0 < (a1.L.length:Int))) y18 false)) (some false)).bind fun (z16:Bool)=>some z16) ((cond (decide (0 < (a1.L.length:Int))) (some true) (cond (a1.E.Kind == 0) (some true) (cond (decide (a0≤7)) (some true) ((Xd a1.E a2).bind fun y23=>some (cond (cond (cond (decide (0 < (a1.L.length:Int))) true (a1.E.Kind == 0)) true (decide (a0≤7))) true (!y23)))))).bind fun (z21:Bool)=>cond z21 (some false) (some (cond (cond (a0 == 8) true (a1.E.Kind == 2)) true (cond (cond (a1.E.Kind == 1) (a1.E.Old.Kind == 1) false) (a1.E.New.Kind == 1) false))))))
noncomputable def Ym:Nat→((Zb→Int→Option Bool)×(Int→Zg→Int→Option Bool))
 | 0=>((fun _ _=>none),(fun _ _ _=>none))
 | k+1=>(Gl ((Ym k).1) ((Ym k).2),Zda ((Ym k).1) ((Ym k).2))
noncomputable def Zfz (a0:Zb) (a1:Int):Option Bool:=lim fun k=>(Ym k).1 a0 a1
noncomputable def K9 (Xr:(Zb→Option Bool)) (a0:Zb) (s0_:Int):Option (Int ⊕ (Unit ⊕ Unit)) :=
 cond (decide (s0_ < (a0.Kids.length:Int))) ((Yx a0.Kids s0_).bind fun x6=>(Xr x6.E).bind fun y8=>cond (!y8) (some (.inr (.inl ()))) (some (.inl (IntKind.i64.wrap (s0_+1))))) (some (.inr (.inr ())))
noncomputable def Va (Xr:(Zb→Option Bool)) (a0:Zb) (s1_:Int):Option (Int ⊕ (Unit ⊕ Unit)) :=
 cond (decide (s1_ < (a0.Ops.length:Int))) ((Yx a0.Ops s1_).bind fun x15=>(Xr x15.E).bind fun y17=>cond (!y17) (some (.inr (.inl ()))) (some (.inl (IntKind.i64.wrap (s1_+1))))) (some (.inr (.inr ())))
noncomputable def Gk (Xr:(Zb→Option Bool)) (a0:Zb):Option Bool :=
 (J8 a0).bind fun y2=>cond (cond (decide (2000 < y2.1)) true (decide (2000 < y2.2))) (some false) ((Zs (K9 Xr a0) 0).bind fun (z11:(Unit ⊕ Unit))=>match z11 with | .inl z11=>some false | .inr z11=>(Zs (Va Xr a0) 0).bind fun (z20:(Unit ⊕ Unit))=>match z20 with | .inl z20=>some false | .inr z20=>some true)
noncomputable def Je:Nat→(Zb→Option Bool)
 | 0=>(fun _=>none)
 | k+1=>Gk ((Je k))
noncomputable def Zfy (a0:Zb):Option Bool:=lim fun k=>(Je k) a0
noncomputable def Za1 (a0:Zb):Option Bool :=
 ((Zcm a0).bind fun y8=>cond y8 ((Zfz a0 64).bind fun y9=>cond y9 ((Zfy a0).bind fun y10=>some (cond (cond y8 y9 false) y10 false)) (some false)) (some false)).bind fun (z4:Bool)=>some z4
noncomputable def K7 (Xq:(Zb→Option Int)) (a0:Zb) (s0_:(Int×Int)):Option ((Int×Int) ⊕ Int) :=
 cond (decide (s0_.2 < (a0.Kids.length:Int))) ((Yx a0.Kids s0_.2).bind fun x1=>(Xq x1.E).bind fun y3=>some (.inl ((IntKind.i64.wrap (s0_.1+y3)),(IntKind.i64.wrap (s0_.2+1))))) (some (.inr s0_.1))
noncomputable def K8 (Xq:(Zb→Option Int)) (a0:Zb) (s1_:(Int×Int)):Option ((Int×Int) ⊕ Int) :=
 cond (decide (s1_.2 < (a0.Ops.length:Int))) (((Yx a0.Ops s1_.2).bind fun x9=>cond (x9.Kind == 3) ((Yx a0.Ops s1_.2).bind fun x11=>(Xq x11.E).bind fun y13=>some (IntKind.i64.wrap (s1_.1+y13))) (some s1_.1)).bind fun (z6:Int)=>some (.inl (z6,(IntKind.i64.wrap (s1_.2+1))))) (some (.inr s1_.1))
noncomputable def Gj (Xq:(Zb→Option Int)) (a0:Zb):Option Int :=
 (Zs (K7 Xq a0) ((IntKind.i64.wrap ((IntKind.i64.wrap (1+(a0.Words.length:Int)))+(a0.Ops.length:Int))),0)).bind fun (z5:Int)=>(Zs (K8 Xq a0) (z5,0)).bind fun (z16:Int)=>some z16
noncomputable def Jd:Nat→(Zb→Option Int)
 | 0=>(fun _=>none)
 | k+1=>Gj ((Jd k))
noncomputable def Zfx (a0:Zb):Option Int:=lim fun k=>(Jd k) a0
noncomputable def J6 (a0:Int):Option (List Zc) :=
 some ([(⟨10,([a0]:List Int),[]⟩:Zc)]:List Zc)
noncomputable def Uz (a0:(List Int)) (s0_:Int):Option (Int ⊕ Int) :=
 (cond (decide (0 < s0_)) ((Yx a0 (IntKind.i64.wrap (s0_ - 1))).bind fun x4=>some (cond (decide (0 < s0_)) (x4 == 0) false)) (some false)).bind fun (z2:Bool)=>cond z2 (some (.inl (IntKind.i64.wrap (s0_ - 1)))) (some (.inr s0_))
noncomputable def Zcp (a0:(List Int)):Option (List Int) :=
 (Zs (Uz a0) (a0.length:Int)).bind fun (z7:Int)=>(Zik a0 0 z7).bind fun l9=>some l9
noncomputable def Gz (a0:(List Zc)) (s0_:Int):Option (Int ⊕ Int) :=
 (cond (decide (0 < s0_)) ((Yx a0 (IntKind.i64.wrap (s0_ - 1))).bind fun x6=>some (cond (decide (0 < s0_)) (x6.Kind == 0) false)) (some false)).bind fun (z3:Bool)=>cond z3 (some (.inl (IntKind.i64.wrap (s0_ - 1)))) (some (.inr s0_))
noncomputable def Zdg (a0:(List Zc)):Option (List Zc) :=
 (Zs (Gz a0) (a0.length:Int)).bind fun (z10:Int)=>(Zik a0 0 z10).bind fun l12=>some l12
noncomputable def Zce (Zcv:(Zc→Option Zc)) (z1:((List Int)×(List Zc))) (s0_:(Int×(List Zc))):Option ((Int×(List Zc)) ⊕ (List Zc)) :=
 cond (decide (s0_.1 < (z1.2.length:Int))) ((Yx z1.2 s0_.1).bind fun x9=>(Zcv x9).bind fun y10=>(Yx s0_.2 s0_.1).bind fun x11=>some (.inl ((IntKind.i64.wrap (s0_.1+1)),(Zlw s0_.2 s0_.1 y10)))) (some (.inr s0_.2))
noncomputable def Zh2 (Zcv:(Zc→Option Zc)) (a0:Zc):Option Zc :=
 cond (a0.Kind == 0) (some (⟨0,[],[]⟩:Zc)) ((cond (a0.Kind == 1) ((Zcp a0.Words).bind fun y2=>(Zdg a0.Kids).bind fun y3=>some (y2,y3)) (some (a0.Words,a0.Kids))).bind fun (z1:((List Int)×(List Zc)))=>(cond (decide (0 < (z1.2.length:Int))) ((Zoh 56 (z1.2.length:Int) (⟨(0:Int),[],[]⟩:Zc)).bind fun l6=>some l6) (some ([]:List Zc))).bind fun (z5:(List Zc))=>(Zs (Zce Zcv z1) (0,z5)).bind fun (z14:(List Zc))=>some (⟨a0.Kind,z1.1,z14⟩:Zc))
noncomputable def U5:Nat→(Zc→Option Zc)
 | 0=>(fun _=>none)
 | k+1=>Zh2 ((U5 k))
noncomputable def Zej (a0:Zc):Option Zc:=lim fun k=>(U5 k) a0
noncomputable def Qp (a0:List Zu):Option (List Zu) :=
 Vr 32 ([]:List Zu) a0
structure Zw where
 out:(List Zg)
 kept:Int
 gone:(List Zc)
 come:(List Zc)
noncomputable def Xv (a0:Zw):Option Zw :=
 (cond (decide (0 < a0.kept)) ((Vr 240 a0.out ([(⟨0,0,[],⟨0,⟨0,[],[]⟩,⟨0,[],[]⟩,[],[],0,[]⟩⟩:Zg)]:List Zg)).bind fun l2=>(Yx l2 (a0.out.length:Int)).bind fun x3=>some (a0.out++[(⟨0,a0.kept,[],⟨0,⟨0,[],[]⟩,⟨0,[],[]⟩,[],[],0,[]⟩⟩:Zg)])) (some a0.out)).bind fun (z1:(List Zg))=>(cond (decide (0 < (a0.gone.length:Int))) ((Vr 240 z1 ([(⟨0,0,[],⟨0,⟨0,[],[]⟩,⟨0,[],[]⟩,[],[],0,[]⟩⟩:Zg)]:List Zg)).bind fun l9=>(Yx l9 (z1.length:Int)).bind fun x10=>some ((z1++[(⟨1,0,a0.gone,⟨0,⟨0,[],[]⟩,⟨0,[],[]⟩,[],[],0,[]⟩⟩:Zg)]),a0.gone)) (some (z1,a0.gone))).bind fun (z6:((List Zg)×(List Zc)))=>(cond (decide (0 < (a0.come.length:Int))) ((Vr 240 z6.1 ([(⟨0,0,[],⟨0,⟨0,[],[]⟩,⟨0,[],[]⟩,[],[],0,[]⟩⟩:Zg)]:List Zg)).bind fun l16=>(Yx l16 (z6.1.length:Int)).bind fun x17=>some ((z6.1++[(⟨2,0,a0.come,⟨0,⟨0,[],[]⟩,⟨0,[],[]⟩,[],[],0,[]⟩⟩:Zg)]),a0.come)) (some (z6.1,a0.come))).bind fun (z13:((List Zg)×(List Zc)))=>some (⟨z13.1,0,[],[]⟩:Zw)
noncomputable def Kb (a0:Zw) (a1:Int):Option Zw :=
 (cond (a0.kept == 0) ((Xv (⟨a0.out,a0.kept,a0.gone,a0.come⟩:Zw)).bind fun y2=>some (y2.out,y2.gone,y2.come,y2.kept)) (some (a0.out,a0.gone,a0.come,a0.kept))).bind fun (z1:((List Zg)×(List Zc)×(List Zc)×Int))=>some (⟨z1.1,(IntKind.i64.wrap (z1.2.2.2+a1)),z1.2.1,z1.2.2.1⟩:Zw)
noncomputable def Qr (a2:(List Zc)) (s0_:(Int×(List Zc))):Option ((Int×(List Zc)) ⊕ (List Zc)) :=
 cond (decide (s0_.1 < (a2.length:Int))) ((Yx a2 s0_.1).bind fun x5=>(Zej x5).bind fun y6=>(Vr 56 s0_.2 ([(⟨0,[],[]⟩:Zc)]:List Zc)).bind fun l7=>(Yx l7 (s0_.2.length:Int)).bind fun x8=>some (.inl ((IntKind.i64.wrap (s0_.1+1)),(s0_.2++[y6])))) (some (.inr s0_.2))
noncomputable def Jt (a0:Zw) (a2:(List Zc)):Option Zw :=
 (cond (decide (0 < a0.kept)) ((Xv (⟨a0.out,a0.kept,a0.gone,a0.come⟩:Zw)).bind fun y2=>some (y2.out,y2.gone,y2.come,y2.kept)) (some (a0.out,a0.gone,a0.come,a0.kept))).bind fun (z1:((List Zg)×(List Zc)×(List Zc)×Int))=>(Zs (Qr a2) (0,z1.2.1)).bind fun (z11:(List Zc))=>some (⟨z1.1,z1.2.2.2,z11,z1.2.2.1⟩:Zw)
noncomputable def Qs (a2:(List Zc)) (s0_:(Int×(List Zc))):Option ((Int×(List Zc)) ⊕ (List Zc)) :=
 cond (decide (s0_.1 < (a2.length:Int))) ((Yx a2 s0_.1).bind fun x5=>(Zej x5).bind fun y6=>(Vr 56 s0_.2 ([(⟨0,[],[]⟩:Zc)]:List Zc)).bind fun l7=>(Yx l7 (s0_.2.length:Int)).bind fun x8=>some (.inl ((IntKind.i64.wrap (s0_.1+1)),(s0_.2++[y6])))) (some (.inr s0_.2))
noncomputable def Ju (a0:Zw) (a2:(List Zc)):Option Zw :=
 (cond (decide (0 < a0.kept)) ((Xv (⟨a0.out,a0.kept,a0.gone,a0.come⟩:Zw)).bind fun y2=>some (y2.out,y2.gone,y2.come,y2.kept)) (some (a0.out,a0.gone,a0.come,a0.kept))).bind fun (z1:((List Zg)×(List Zc)×(List Zc)×Int))=>(Zs (Qs a2) (0,z1.2.2.1)).bind fun (z11:(List Zc))=>some (⟨z1.1,z1.2.2.2,z1.2.1,z11⟩:Zw)
noncomputable def Zfp (a0:Int) (a1:Zb):Option Bool :=
 some (cond (a1.Kind == 0) true (cond (cond (a0 == 9) (a1.Kind == 2) false) ((IntKind.i64.wrap ((a1.Words.length:Int)+(a1.Kids.length:Int))) == 0) false))
noncomputable def Ka (a0:Zw) (a1:Int) (a2:Zb):Option Zw :=
 (Zfp a1 a2).bind fun y2=>cond y2 ((Kb (⟨a0.out,a0.kept,a0.gone,a0.come⟩:Zw) 1).bind fun y4=>some (⟨y4.out,y4.kept,y4.gone,y4.come⟩:Zw)) ((Xv (⟨a0.out,a0.kept,a0.gone,a0.come⟩:Zw)).bind fun y6=>(Vr 240 y6.out ([(⟨0,0,[],⟨0,⟨0,[],[]⟩,⟨0,[],[]⟩,[],[],0,[]⟩⟩:Zg)]:List Zg)).bind fun l7=>(Yx l7 (y6.out.length:Int)).bind fun x8=>some (⟨(y6.out++[(⟨3,0,[],a2⟩:Zg)]),y6.kept,y6.gone,y6.come⟩:Zw))
noncomputable def Zcd (X1:(Zb→Option Zb)) (a0:Zb) (s0_:(Int×(List Zj))):Option ((Int×(List Zj)) ⊕ (List Zj)) :=
 cond (decide (s0_.1 < (a0.Kids.length:Int))) ((Yx a0.Kids s0_.1).bind fun x8=>(X1 x8.E).bind fun y9=>(Vr 208 s0_.2 ([(⟨x8.At,y9⟩:Zj)]:List Zj)).bind fun l10=>some (.inl ((IntKind.i64.wrap (s0_.1+1)),l10))) (some (.inr s0_.2))
noncomputable def Zfl (X1:(Zb→Option Zb)) (Vs:(Int→(List Zg)→Option (List Zg))) (a0:Zb):Option Zb :=
 cond (a0.Kind == 1) ((Zej a0.Old).bind fun y3=>(Zej a0.New).bind fun y4=>some (⟨1,y3,y4,[],[],0,[]⟩:Zb)) (cond (a0.Kind == 2) ((Qp a0.Words).bind fun y6=>(Zs (Zcd X1 a0) (0,([]:List Zj))).bind fun (z12:(List Zj))=>some (⟨2,⟨0,[],[]⟩,⟨0,[],[]⟩,y6,z12,0,[]⟩:Zb)) (cond (a0.Kind == 3) ((Vs a0.List_ a0.Ops).bind fun y14=>some (⟨3,⟨0,[],[]⟩,⟨0,[],[]⟩,[],[],a0.List_,y14⟩:Zb)) (some (⟨0,⟨0,[],[]⟩,⟨0,[],[]⟩,[],[],0,[]⟩:Zb))))
noncomputable def Um (X1:(Zb→Option Zb)) (a0:Int) (a1:(List Zg)) (s0_:(Int×Int×(List Zg)×(List Zc)×(List Zc))):Option ((Int×Int×(List Zg)×(List Zc)×(List Zc)) ⊕ (Int×(List Zg)×(List Zc)×(List Zc))) :=
 cond (decide (s0_.1 < (a1.length:Int))) (((Yx a1 s0_.1).bind fun x3=>cond (x3.Kind == 0) ((Kb (⟨s0_.2.2.1,s0_.2.1,s0_.2.2.2.1,s0_.2.2.2.2⟩:Zw) x3.N).bind fun y4=>some (y4.kept,y4.out,y4.gone,y4.come)) (cond (x3.Kind == 1) ((Jt (⟨s0_.2.2.1,s0_.2.1,s0_.2.2.2.1,s0_.2.2.2.2⟩:Zw) x3.L).bind fun y5=>some (y5.kept,y5.out,y5.gone,y5.come)) (cond (x3.Kind == 2) ((Ju (⟨s0_.2.2.1,s0_.2.1,s0_.2.2.2.1,s0_.2.2.2.2⟩:Zw) x3.L).bind fun y6=>some (y6.kept,y6.out,y6.gone,y6.come)) (cond (x3.Kind == 3) ((X1 x3.E).bind fun y7=>(Ka (⟨s0_.2.2.1,s0_.2.1,s0_.2.2.2.1,s0_.2.2.2.2⟩:Zw) a0 y7).bind fun y8=>some (y8.kept,y8.out,y8.gone,y8.come)) (some (s0_.2.1,s0_.2.2.1,s0_.2.2.2.1,s0_.2.2.2.2)))))).bind fun (z1:(Int×(List Zg)×(List Zc)×(List Zc)))=>some (.inl ((IntKind.i64.wrap (s0_.1+1)),z1.1,z1.2.1,z1.2.2.1,z1.2.2.2))) (some (.inr (s0_.2.1,s0_.2.2.1,s0_.2.2.2.1,s0_.2.2.2.2)))
noncomputable def Zet (X1:(Zb→Option Zb)) (Vs:(Int→(List Zg)→Option (List Zg))) (a0:Int) (a1:(List Zg)):Option (List Zg) :=
 (Zs (Um X1 a0 a1) (0,0,([]:List Zg),([]:List Zc),([]:List Zc))).bind fun (z14:(Int×(List Zg)×(List Zc)×(List Zc)))=>(Xv (⟨z14.2.1,z14.1,z14.2.2.1,z14.2.2.2⟩:Zw)).bind fun y16=>some y16.out
noncomputable def Xw:Nat→((Zb→Option Zb)×(Int→(List Zg)→Option (List Zg)))
 | 0=>((fun _=>none),(fun _ _=>none))
 | k+1=>(Zfl ((Xw k).1) ((Xw k).2),Zet ((Xw k).1) ((Xw k).2))
noncomputable def Zdt (a0:Zb):Option Zb:=lim fun k=>(Xw k).1 a0
noncomputable def Zco (a0:Zg):Option Int :=
 cond (a0.Kind == 0) (some (if 1048576 < (if a0.N < 0 then 0 else a0.N) then 1048576 else (if a0.N < 0 then 0 else a0.N))) ((cond (a0.Kind == 1) (some (a0.Kind == 1)) (some (a0.Kind == 2))).bind fun (z1:Bool)=>cond z1 (some (a0.L.length:Int)) (cond (a0.Kind == 3) (some 1) (some 0)))
noncomputable def Za2 (a0:Zb) (s0_:(Int×Int×Int)):Option ((Int×Int×Int) ⊕ (Int×Int)) :=
 cond (decide (s0_.2.2 < (a0.Ops.length:Int))) (((Yx a0.Ops s0_.2.2).bind fun x3=>(cond (x3.Kind != 2) ((Zco x3).bind fun y5=>some (if 1048576 < (IntKind.i64.wrap (s0_.1+y5)) then 1048576 else (IntKind.i64.wrap (s0_.1+y5)))) (some s0_.1)).bind fun (z4:Int)=>cond (x3.Kind != 1) ((Zco x3).bind fun y7=>some (z4,(if 1048576 < (IntKind.i64.wrap (s0_.2.1+y7)) then 1048576 else (IntKind.i64.wrap (s0_.2.1+y7))))) (some (z4,s0_.2.1))).bind fun (z1:(Int×Int))=>some (.inl (z1.1,z1.2,(IntKind.i64.wrap (s0_.2.2+1))))) (some (.inr (s0_.1,s0_.2.1)))
noncomputable def Km (a0:Zb):Option (Int×Int) :=
 (Zs (Za2 a0) (0,0,0)).bind fun (z10:(Int×Int))=>some (z10.1,z10.2)
noncomputable def Vk (a0:(List Zg)) (a1:Int):Option (List Zg) :=
 cond (decide (a1≤0)) (some a0) ((Vr 240 a0 ([(⟨0,a1,[],⟨0,⟨0,[],[]⟩,⟨0,[],[]⟩,[],[],0,[]⟩⟩:Zg)]:List Zg)).bind fun l2=>some l2)
noncomputable def Vl (a0:Zg) (a1:Int) (a2:(List Zb)) (a3:Zb) (a4:Int):Option (Int×(List Zb)×Zb×Int) :=
 (Vk ([]:(List Zg)) a1).bind fun y2=>(Vr 240 y2 ([a0]:List Zg)).bind fun l4=>(Vk l4 a4).bind fun y5=>(Vr 200 a2 ([(⟨3,⟨0,[],[]⟩,⟨0,[],[]⟩,[],[],a3.List_,y5⟩:Zb)]:List Zb)).bind fun l6=>some (a1,l6,a3,a4)
noncomputable def Zbq (Xh:(Zb→Option (List Zb))) (Xl:(Zb→Option (List Zb))) (Xz:(Zb→Option (List Zb))) (a0:Zb):Option (List Zb) :=
 (cond (a0.Kind == 0) (some (.inr ())) (cond (a0.Kind == 2) ((Xl a0).bind fun y2=>some (.inl y2)) (cond (a0.Kind == 3) ((Xz a0).bind fun y3=>some (.inl y3)) (some (.inl ([]:(List Zb))))))).bind fun (z1:((List Zb) ⊕ Unit))=>match z1 with | .inl z1=>cond ((z1.length:Int) == 0) (some ([a0]:List Zb)) (some z1) | .inr z1=>some ([]:(List Zb))
noncomputable def Uv (a0:Zb) (s0_:(Int×(List Zb))):Option ((Int×(List Zb)) ⊕ (List Zb)) :=
 cond (decide (s0_.1 < (a0.Words.length:Int))) ((Yx a0.Words s0_.1).bind fun x2=>(Vr 200 s0_.2 ([(⟨2,⟨0,[],[]⟩,⟨0,[],[]⟩,([x2]:List Zu),[],0,[]⟩:Zb)]:List Zb)).bind fun l3=>some (.inl ((IntKind.i64.wrap (s0_.1+1)),l3))) (some (.inr s0_.2))
noncomputable def Uw (x7:Zj) (y9:(List Zb)) (s2_:(Int×(List Zb))):Option ((Int×(List Zb)) ⊕ (List Zb)) :=
 cond (decide (s2_.1 < (y9.length:Int))) ((Yx y9 s2_.1).bind fun x11=>(Vr 200 s2_.2 ([(⟨2,⟨0,[],[]⟩,⟨0,[],[]⟩,[],([(⟨x7.At,x11⟩:Zj)]:List Zj),0,[]⟩:Zb)]:List Zb)).bind fun l12=>some (.inl ((IntKind.i64.wrap (s2_.1+1)),l12))) (some (.inr s2_.2))
noncomputable def Kr (Xh:(Zb→Option (List Zb))) (a0:Zb) (s1_:(Int×(List Zb))):Option ((Int×(List Zb)) ⊕ (List Zb)) :=
 cond (decide (s1_.1 < (a0.Kids.length:Int))) ((Yx a0.Kids s1_.1).bind fun x7=>(Xh x7.E).bind fun y9=>(Zs (Uw x7 y9) (0,s1_.2)).bind fun (z14:(List Zb))=>some (.inl ((IntKind.i64.wrap (s1_.1+1)),z14))) (some (.inr s1_.2))
noncomputable def Ge (Xh:(Zb→Option (List Zb))) (Xl:(Zb→Option (List Zb))) (Xz:(Zb→Option (List Zb))) (a0:Zb):Option (List Zb) :=
 (Zs (Uv a0) (0,([]:List Zb))).bind fun (z5:(List Zb))=>(Zs (Kr Xh a0) (0,z5)).bind fun (z16:(List Zb))=>some z16
noncomputable def Uc (y10:(List Zb)) (s1_:(Int×Int×Int×(List Int)×(List Zc)×Int×(List Int)×(List Zc)×(List Zu)×(List Zj)×Int×(List Zg)×Int×Int×(List Zb))):Option ((Int×Int×Int×(List Int)×(List Zc)×Int×(List Int)×(List Zc)×(List Zu)×(List Zj)×Int×(List Zg)×Int×Int×(List Zb)) ⊕ (Int×Int×(List Int)×(List Zc)×Int×(List Int)×(List Zc)×(List Zu)×(List Zj)×Int×(List Zg)×Int×Int×(List Zb))) :=
 cond (decide (s1_.1 < (y10.length:Int))) ((Yx y10 s1_.1).bind fun x12=>(Vl (⟨3,0,[],x12⟩:Zg) s1_.2.2.2.2.2.2.2.2.2.2.2.2.1 s1_.2.2.2.2.2.2.2.2.2.2.2.2.2.2 (⟨s1_.2.1,⟨s1_.2.2.1,s1_.2.2.2.1,s1_.2.2.2.2.1⟩,⟨s1_.2.2.2.2.2.1,s1_.2.2.2.2.2.2.1,s1_.2.2.2.2.2.2.2.1⟩,s1_.2.2.2.2.2.2.2.2.1,s1_.2.2.2.2.2.2.2.2.2.1,s1_.2.2.2.2.2.2.2.2.2.2.1,s1_.2.2.2.2.2.2.2.2.2.2.2.1⟩:Zb) s1_.2.2.2.2.2.2.2.2.2.2.2.2.2.1).bind fun y13=>some (.inl ((IntKind.i64.wrap (s1_.1+1)),y13.2.2.1.Kind,y13.2.2.1.Old.Kind,y13.2.2.1.Old.Words,y13.2.2.1.Old.Kids,y13.2.2.1.New.Kind,y13.2.2.1.New.Words,y13.2.2.1.New.Kids,y13.2.2.1.Words,y13.2.2.1.Kids,y13.2.2.1.List_,y13.2.2.1.Ops,y13.1,y13.2.2.2,y13.2.1))) (some (.inr (s1_.2.1,s1_.2.2.1,s1_.2.2.2.1,s1_.2.2.2.2.1,s1_.2.2.2.2.2.1,s1_.2.2.2.2.2.2.1,s1_.2.2.2.2.2.2.2.1,s1_.2.2.2.2.2.2.2.2.1,s1_.2.2.2.2.2.2.2.2.2.1,s1_.2.2.2.2.2.2.2.2.2.2.1,s1_.2.2.2.2.2.2.2.2.2.2.2.1,s1_.2.2.2.2.2.2.2.2.2.2.2.2.1,s1_.2.2.2.2.2.2.2.2.2.2.2.2.2.1,s1_.2.2.2.2.2.2.2.2.2.2.2.2.2.2)))
noncomputable def Ub (Xh:(Zb→Option (List Zb))) (a0:Zb) (s0_:(Int×Int×Int×(List Int)×(List Zc)×Int×(List Int)×(List Zc)×(List Zu)×(List Zj)×Int×(List Zg)×Int×Int×(List Zb))):Option ((Int×Int×Int×(List Int)×(List Zc)×Int×(List Int)×(List Zc)×(List Zu)×(List Zj)×Int×(List Zg)×Int×Int×(List Zb)) ⊕ (List Zb)) :=
 cond (decide (s0_.1 < (a0.Ops.length:Int))) (((Yx a0.Ops s0_.1).bind fun x5=>cond (x5.Kind == 0) (some (s0_.2.1,s0_.2.2.1,s0_.2.2.2.1,s0_.2.2.2.2.1,s0_.2.2.2.2.2.1,s0_.2.2.2.2.2.2.1,s0_.2.2.2.2.2.2.2.1,s0_.2.2.2.2.2.2.2.2.1,s0_.2.2.2.2.2.2.2.2.2.1,s0_.2.2.2.2.2.2.2.2.2.2.1,s0_.2.2.2.2.2.2.2.2.2.2.2.1,(IntKind.i64.wrap (s0_.2.2.2.2.2.2.2.2.2.2.2.2.1+x5.N)),(IntKind.i64.wrap (s0_.2.2.2.2.2.2.2.2.2.2.2.2.2.1 - x5.N)),s0_.2.2.2.2.2.2.2.2.2.2.2.2.2.2)) (cond (x5.Kind == 1) ((Vl x5 s0_.2.2.2.2.2.2.2.2.2.2.2.2.1 s0_.2.2.2.2.2.2.2.2.2.2.2.2.2.2 (⟨s0_.2.1,⟨s0_.2.2.1,s0_.2.2.2.1,s0_.2.2.2.2.1⟩,⟨s0_.2.2.2.2.2.1,s0_.2.2.2.2.2.2.1,s0_.2.2.2.2.2.2.2.1⟩,s0_.2.2.2.2.2.2.2.2.1,s0_.2.2.2.2.2.2.2.2.2.1,s0_.2.2.2.2.2.2.2.2.2.2.1,s0_.2.2.2.2.2.2.2.2.2.2.2.1⟩:Zb) (IntKind.i64.wrap (s0_.2.2.2.2.2.2.2.2.2.2.2.2.2.1 - (x5.L.length:Int)))).bind fun y6=>some (y6.2.2.1.Kind,y6.2.2.1.Old.Kind,y6.2.2.1.Old.Words,y6.2.2.1.Old.Kids,y6.2.2.1.New.Kind,y6.2.2.1.New.Words,y6.2.2.1.New.Kids,y6.2.2.1.Words,y6.2.2.1.Kids,y6.2.2.1.List_,y6.2.2.1.Ops,y6.1,y6.2.2.2,y6.2.1)) (cond (x5.Kind == 2) ((Vl x5 s0_.2.2.2.2.2.2.2.2.2.2.2.2.1 s0_.2.2.2.2.2.2.2.2.2.2.2.2.2.2 (⟨s0_.2.1,⟨s0_.2.2.1,s0_.2.2.2.1,s0_.2.2.2.2.1⟩,⟨s0_.2.2.2.2.2.1,s0_.2.2.2.2.2.2.1,s0_.2.2.2.2.2.2.2.1⟩,s0_.2.2.2.2.2.2.2.2.1,s0_.2.2.2.2.2.2.2.2.2.1,s0_.2.2.2.2.2.2.2.2.2.2.1,s0_.2.2.2.2.2.2.2.2.2.2.2.1⟩:Zb) s0_.2.2.2.2.2.2.2.2.2.2.2.2.2.1).bind fun y8=>some (y8.2.2.1.Kind,y8.2.2.1.Old.Kind,y8.2.2.1.Old.Words,y8.2.2.1.Old.Kids,y8.2.2.1.New.Kind,y8.2.2.1.New.Words,y8.2.2.1.New.Kids,y8.2.2.1.Words,y8.2.2.1.Kids,y8.2.2.1.List_,y8.2.2.1.Ops,(IntKind.i64.wrap (y8.1+(x5.L.length:Int))),y8.2.2.2,y8.2.1)) (cond (x5.Kind == 3) ((Xh x5.E).bind fun y10=>(Zs (Uc y10) (0,s0_.2.1,s0_.2.2.1,s0_.2.2.2.1,s0_.2.2.2.2.1,s0_.2.2.2.2.2.1,s0_.2.2.2.2.2.2.1,s0_.2.2.2.2.2.2.2.1,s0_.2.2.2.2.2.2.2.2.1,s0_.2.2.2.2.2.2.2.2.2.1,s0_.2.2.2.2.2.2.2.2.2.2.1,s0_.2.2.2.2.2.2.2.2.2.2.2.1,s0_.2.2.2.2.2.2.2.2.2.2.2.2.1,(IntKind.i64.wrap (s0_.2.2.2.2.2.2.2.2.2.2.2.2.2.1 - 1)),s0_.2.2.2.2.2.2.2.2.2.2.2.2.2.2)).bind fun (z15:(Int×Int×(List Int)×(List Zc)×Int×(List Int)×(List Zc)×(List Zu)×(List Zj)×Int×(List Zg)×Int×Int×(List Zb)))=>some (z15.1,z15.2.1,z15.2.2.1,z15.2.2.2.1,z15.2.2.2.2.1,z15.2.2.2.2.2.1,z15.2.2.2.2.2.2.1,z15.2.2.2.2.2.2.2.1,z15.2.2.2.2.2.2.2.2.1,z15.2.2.2.2.2.2.2.2.2.1,z15.2.2.2.2.2.2.2.2.2.2.1,(IntKind.i64.wrap (z15.2.2.2.2.2.2.2.2.2.2.2.1+1)),z15.2.2.2.2.2.2.2.2.2.2.2.2.1,z15.2.2.2.2.2.2.2.2.2.2.2.2.2)) (some (s0_.2.1,s0_.2.2.1,s0_.2.2.2.1,s0_.2.2.2.2.1,s0_.2.2.2.2.2.1,s0_.2.2.2.2.2.2.1,s0_.2.2.2.2.2.2.2.1,s0_.2.2.2.2.2.2.2.2.1,s0_.2.2.2.2.2.2.2.2.2.1,s0_.2.2.2.2.2.2.2.2.2.2.1,s0_.2.2.2.2.2.2.2.2.2.2.2.1,s0_.2.2.2.2.2.2.2.2.2.2.2.2.1,s0_.2.2.2.2.2.2.2.2.2.2.2.2.2.1,s0_.2.2.2.2.2.2.2.2.2.2.2.2.2.2)))))).bind fun (z3:(Int×Int×(List Int)×(List Zc)×Int×(List Int)×(List Zc)×(List Zu)×(List Zj)×Int×(List Zg)×Int×Int×(List Zb)))=>some (.inl ((IntKind.i64.wrap (s0_.1+1)),z3.1,z3.2.1,z3.2.2.1,z3.2.2.2.1,z3.2.2.2.2.1,z3.2.2.2.2.2.1,z3.2.2.2.2.2.2.1,z3.2.2.2.2.2.2.2.1,z3.2.2.2.2.2.2.2.2.1,z3.2.2.2.2.2.2.2.2.2.1,z3.2.2.2.2.2.2.2.2.2.2.1,z3.2.2.2.2.2.2.2.2.2.2.2.1,z3.2.2.2.2.2.2.2.2.2.2.2.2.1,z3.2.2.2.2.2.2.2.2.2.2.2.2.2))) (some (.inr s0_.2.2.2.2.2.2.2.2.2.2.2.2.2.2))
noncomputable def Gq (Xh:(Zb→Option (List Zb))) (Xl:(Zb→Option (List Zb))) (Xz:(Zb→Option (List Zb))) (a0:Zb):Option (List Zb) :=
 (Km a0).bind fun y2=>(Zs (Ub Xh a0) (0,a0.Kind,a0.Old.Kind,a0.Old.Words,a0.Old.Kids,a0.New.Kind,a0.New.Words,a0.New.Kids,a0.Words,a0.Kids,a0.List_,a0.Ops,0,y2.1,([]:List Zb))).bind fun (z21:(List Zb))=>some z21
noncomputable def Z4:Nat→((Zb→Option (List Zb))×(Zb→Option (List Zb))×(Zb→Option (List Zb)))
 | 0=>((fun _=>none),(fun _=>none),(fun _=>none))
 | k+1=>(Zbq ((Z4 k).1) ((Z4 k).2.1) ((Z4 k).2.2),Ge ((Z4 k).1) ((Z4 k).2.1) ((Z4 k).2.2),Gq ((Z4 k).1) ((Z4 k).2.1) ((Z4 k).2.2))
noncomputable def Zh0 (a0:Zb):Option (List Zb):=lim fun k=>(Z4 k).1 a0
noncomputable def Ga (a0:Zb):Option (List Zb) :=
 (Zdt a0).bind fun y3=>(Zh0 y3).bind fun y4=>some y4
noncomputable def Zmu (a0:Zg):Option Int :=
 cond (a0.Kind == 0) (some a0.N) ((cond (a0.Kind == 1) (some (a0.Kind == 1)) (some (a0.Kind == 2))).bind fun (z1:Bool)=>cond z1 (some (a0.L.length:Int)) (some 1))
structure Yj where
 left:(List Zg)
 gone:Int
noncomputable def Zc4 (s0_:((List Zg)×Int)):Option (((List Zg)×Int) ⊕ ((Int×Int×(List Zg)×Int) ⊕ ((List Zg)×Int))) :=
 cond (decide (0 < (s0_.1.length:Int))) ((Yx s0_.1 0).bind fun x3=>(Zmu x3).bind fun y4=>cond (decide (0 < (IntKind.i64.wrap (y4 - s0_.2)))) ((Yx s0_.1 0).bind fun x7=>some (.inr (.inl (x7.Kind,(IntKind.i64.wrap (y4 - s0_.2)),s0_.1,s0_.2)))) ((Zik s0_.1 1 (s0_.1.length:Int)).bind fun l9=>some (.inl (l9,0)))) (some (.inr (.inr (s0_.1,s0_.2))))
noncomputable def Ks (a0:Yj):Option (Int×Int×Yj) :=
 (Zs (Zc4) (a0.left,a0.gone)).bind fun (z12:((Int×Int×(List Zg)×Int) ⊕ ((List Zg)×Int)))=>match z12 with | .inl z12=>some (z12.1,z12.2.1,(⟨z12.2.2.1,z12.2.2.2⟩:Yj)) | .inr z12=>some (0,0,(⟨z12.1,z12.2⟩:Yj))
noncomputable def Kt (a0:Yj) (a1:Int):Option (Zg×Yj) :=
 (Yx a0.left 0).bind fun x2=>(cond (x2.Kind == 0) (some (a1,x2.L)) ((cond (x2.Kind == 1) (some (x2.Kind == 1)) (some (x2.Kind == 2))).bind fun (z4:Bool)=>cond z4 ((Zik x2.L a0.gone (IntKind.i64.wrap (a0.gone+a1))).bind fun l6=>some (x2.N,l6)) (some (x2.N,x2.L)))).bind fun (z3:(Int×(List Zc)))=>some ((⟨x2.Kind,z3.1,z3.2,x2.E⟩:Zg),(⟨a0.left,(IntKind.i64.wrap (a0.gone+a1))⟩:Yj))
structure Z7 where
 Of:Int
 P:Zg
 Q:Zg
noncomputable def Ud (a2:Int) (a3:Int) (s0_:((List Zg)×Int×(List Zg)×Int×(List Z7))):Option (((List Zg)×Int×(List Zg)×Int×(List Z7)) ⊕ ((List Z7)×Bool)) :=
 (Ks (⟨s0_.1,s0_.2.1⟩:Yj)).bind fun y2=>(Ks (⟨s0_.2.2.1,s0_.2.2.2.1⟩:Yj)).bind fun y4=>cond (cond (decide (0 < y2.2.1)) (y2.1 == a2) false) ((Kt y2.2.2 y2.2.1).bind fun y5=>(Vr 488 s0_.2.2.2.2 ([(⟨1,y5.1,⟨0,0,[],⟨0,⟨0,[],[]⟩,⟨0,[],[]⟩,[],[],0,[]⟩⟩⟩:Z7)]:List Z7)).bind fun l6=>some (.inl (y5.2.left,y5.2.gone,y4.2.2.left,y4.2.2.gone,l6))) (cond (cond (decide (0 < y4.2.1)) (y4.1 == a3) false) ((Kt y4.2.2 y4.2.1).bind fun y7=>(Vr 488 s0_.2.2.2.2 ([(⟨2,⟨0,0,[],⟨0,⟨0,[],[]⟩,⟨0,[],[]⟩,[],[],0,[]⟩⟩,y7.1⟩:Z7)]:List Z7)).bind fun l8=>some (.inl (y2.2.2.left,y2.2.2.gone,y7.2.left,y7.2.gone,l8))) (cond (cond (y2.2.1 == 0) (y4.2.1 == 0) false) (some (.inr (s0_.2.2.2.2,true))) (cond (cond (y2.2.1 == 0) true (y4.2.1 == 0)) (some (.inr (([]:(List Z7)),false))) ((Kt y2.2.2 (if y4.2.1 < y2.2.1 then y4.2.1 else y2.2.1)).bind fun y9=>(Kt y4.2.2 (if y4.2.1 < y2.2.1 then y4.2.1 else y2.2.1)).bind fun y10=>(Vr 488 s0_.2.2.2.2 ([(⟨0,y9.1,y10.1⟩:Z7)]:List Z7)).bind fun l11=>some (.inl (y9.2.left,y9.2.gone,y10.2.left,y10.2.gone,l11))))))
noncomputable def Zgy (a0:(List Zg)) (a1:(List Zg)) (a2:Int) (a3:Int):Option ((List Z7)×Bool) :=
 (Zs (Ud a2 a3) (a0,0,a1,0,([]:List Z7))).bind fun (z16:((List Z7)×Bool))=>some (z16.1,z16.2)
noncomputable def Zei (a0:(List Zg)) (a1:(List Zg)):Option ((List Z7)×Bool) :=
 (Zgy a0 a1 1 2).bind fun y2=>some (y2.1,y2.2)
noncomputable def Zin (a0:Z7):Option ((List Zg)×Bool) :=
 cond (cond (a0.Of == 1) true (cond (a0.Of == 0) (a0.Q.Kind == 0) false)) (some (([a0.P]:List Zg),true)) (cond (cond (a0.Of == 2) true (a0.P.Kind == 0)) (some (([a0.Q]:List Zg),true)) (cond (cond (a0.P.Kind == 2) (a0.Q.Kind == 1) false) (none) (cond (a0.P.Kind == 2) ((Yx a0.P.L 0).bind fun x2=>none) (cond (a0.Q.Kind == 1) (none) (none)))))
noncomputable def Zjk (y2:((List Z7)×Bool)) (s0_:(Int×(List Zg))):Option ((Int×(List Zg)) ⊕ (Unit ⊕ (List Zg))) :=
 cond (decide (s0_.1 < (y2.1.length:Int))) ((Yx y2.1 s0_.1).bind fun x4=>(Zin x4).bind fun y6=>cond (!y6.2) (some (.inr (.inl ()))) ((Vr 240 s0_.2 y6.1).bind fun l7=>some (.inl ((IntKind.i64.wrap (s0_.1+1)),l7)))) (some (.inr (.inr s0_.2)))
noncomputable def Zde (a0:Zb) (a1:Zb):Option (Zb×Bool) :=
 (Zei a0.Ops a1.Ops).bind fun y2=>cond (!y2.2) (some ((⟨0,⟨0,[],[]⟩,⟨0,[],[]⟩,[],[],0,[]⟩:Zb),false)) ((Zs (Zjk y2) (0,([]:List Zg))).bind fun (z10:(Unit ⊕ (List Zg)))=>match z10 with | .inl z10=>some ((⟨0,⟨0,[],[]⟩,⟨0,[],[]⟩,[],[],0,[]⟩:Zb),false) | .inr z10=>some ((⟨3,⟨0,[],[]⟩,⟨0,[],[]⟩,[],[],a0.List_,z10⟩:Zb),true))
noncomputable def Zcn (a0:Zb) (a1:Zb):Option (Zb×Bool) :=
 cond (a0.Kind == 0) (some (a1,true)) (cond (a1.Kind == 0) (some (a0,true)) (cond (a0.Kind == 1) (none) (cond (a1.Kind == 1) (none) (cond (cond (a0.Kind == 2) (a1.Kind == 2) false) (none) (cond (cond (cond (a0.Kind == 3) (a1.Kind == 3) false) (a0.List_ == a1.List_) false) ((Zde a0 a1).bind fun y2=>some (y2.1,y2.2)) (some ((⟨0,⟨0,[],[]⟩,⟨0,[],[]⟩,[],[],0,[]⟩:Zb),false)))))))
noncomputable def Gy (a0:Zb) (a1:Zb):Option (Zb×Bool) :=
 (Zcn a0 a1).bind fun y2=>cond (!y2.2) (some ((⟨0,⟨0,[],[]⟩,⟨0,[],[]⟩,[],[],0,[]⟩:Zb),false)) ((Zdt y2.1).bind fun y4=>some (y4,true))
noncomputable def Up (a0:(List Zb)) (s0_:(Int×Int×Int×(List Int)×(List Zc)×Int×(List Int)×(List Zc)×(List Zu)×(List Zj)×Int×(List Zg))):Option ((Int×Int×Int×(List Int)×(List Zc)×Int×(List Int)×(List Zc)×(List Zu)×(List Zj)×Int×(List Zg)) ⊕ (Unit ⊕ (Int×Int×(List Int)×(List Zc)×Int×(List Int)×(List Zc)×(List Zu)×(List Zj)×Int×(List Zg)))) :=
 cond (decide (s0_.1 < (a0.length:Int))) ((Yx a0 s0_.1).bind fun x2=>(Gy (⟨s0_.2.1,⟨s0_.2.2.1,s0_.2.2.2.1,s0_.2.2.2.2.1⟩,⟨s0_.2.2.2.2.2.1,s0_.2.2.2.2.2.2.1,s0_.2.2.2.2.2.2.2.1⟩,s0_.2.2.2.2.2.2.2.2.1,s0_.2.2.2.2.2.2.2.2.2.1,s0_.2.2.2.2.2.2.2.2.2.2.1,s0_.2.2.2.2.2.2.2.2.2.2.2⟩:Zb) x2).bind fun y4=>cond (!y4.2) (some (.inr (.inl ()))) (some (.inl ((IntKind.i64.wrap (s0_.1+1)),y4.1.Kind,y4.1.Old.Kind,y4.1.Old.Words,y4.1.Old.Kids,y4.1.New.Kind,y4.1.New.Words,y4.1.New.Kids,y4.1.Words,y4.1.Kids,y4.1.List_,y4.1.Ops)))) (some (.inr (.inr (s0_.2.1,s0_.2.2.1,s0_.2.2.2.1,s0_.2.2.2.2.1,s0_.2.2.2.2.2.1,s0_.2.2.2.2.2.2.1,s0_.2.2.2.2.2.2.2.1,s0_.2.2.2.2.2.2.2.2.1,s0_.2.2.2.2.2.2.2.2.2.1,s0_.2.2.2.2.2.2.2.2.2.2.1,s0_.2.2.2.2.2.2.2.2.2.2.2))))
noncomputable def Zg0 (a0:(List Zb)):Option (Zb×Bool) :=
 (Zs (Up a0) (0,0,0,([]:(List Int)),([]:(List Zc)),0,([]:(List Int)),([]:(List Zc)),([]:(List Zu)),([]:(List Zj)),0,([]:(List Zg)))).bind fun (z7:(Unit ⊕ (Int×Int×(List Int)×(List Zc)×Int×(List Int)×(List Zc)×(List Zu)×(List Zj)×Int×(List Zg))))=>match z7 with | .inl z7=>some ((⟨0,⟨0,[],[]⟩,⟨0,[],[]⟩,[],[],0,[]⟩:Zb),false) | .inr z7=>some ((⟨z7.1,⟨z7.2.1,z7.2.2.1,z7.2.2.2.1⟩,⟨z7.2.2.2.2.1,z7.2.2.2.2.2.1,z7.2.2.2.2.2.2.1⟩,z7.2.2.2.2.2.2.2.1,z7.2.2.2.2.2.2.2.2.1,z7.2.2.2.2.2.2.2.2.2.1,z7.2.2.2.2.2.2.2.2.2.2⟩:Zb),true)
noncomputable def Vh :Option Bool :=
 (J6 1).bind fun y4=>(J6 2).bind fun y5=>(Ga (⟨3,⟨0,[],[]⟩,⟨0,[],[]⟩,[],[],4,([(⟨1,0,y4,⟨0,⟨0,[],[]⟩,⟨0,[],[]⟩,[],[],0,[]⟩⟩:Zg),(⟨0,1,[],⟨0,⟨0,[],[]⟩,⟨0,[],[]⟩,[],[],0,[]⟩⟩:Zg),(⟨2,0,y5,⟨0,⟨0,[],[]⟩,⟨0,[],[]⟩,[],[],0,[]⟩⟩:Zg)]:List Zg)⟩:Zb)).bind fun y6=>(Zg0 y6).bind fun y8=>(cond y8.2 (cond ((y6.length:Int) == 2) ((Yx y6 0).bind fun x26=>cond ((x26.Ops.length:Int) == 2) ((Yx y6 1).bind fun x28=>(Yx x28.Ops 0).bind fun x30=>cond (x30.N == 1) (cond ((y8.1.Ops.length:Int) == 3) ((Yx y8.1.Ops 0).bind fun x32=>some (cond (cond (cond (cond (cond y8.2 ((y6.length:Int) == 2) false) ((x26.Ops.length:Int) == 2) false) (x30.N == 1) false) ((y8.1.Ops.length:Int) == 3) false) (x32.Kind == 1) false)) (some false)) (some false)) (some false)) (some false)) (some false)).bind fun (z17:Bool)=>some z17
noncomputable def V5 (a0:(List Int)) (s0_:Int):Option (Int ⊕ Int) :=
 (cond (decide (0 < s0_)) ((Yx a0 (IntKind.i64.wrap (s0_ - 1))).bind fun x4=>some (cond (decide (0 < s0_)) (x4 == 0) false)) (some false)).bind fun (z2:Bool)=>cond z2 (some (.inl (IntKind.i64.wrap (s0_ - 1)))) (some (.inr s0_))
noncomputable def Za0 (a0:(List Int)):Option (List Int) :=
 (Zs (V5 a0) (a0.length:Int)).bind fun (z7:Int)=>(Zik a0 0 z7).bind fun l10=>(Vr 8 ([]:List Int) l10).bind fun l11=>some l11
noncomputable def Qv (Jj:(Zc→Option Zc)) (a0:Zc) (s0_:(Int×Int×(List Zc))):Option ((Int×Int×(List Zc)) ⊕ (Int×(List Zc))) :=
 cond (decide (s0_.2.1 < (a0.Kids.length:Int))) (((Yx a0.Kids s0_.2.1).bind fun x4=>(Jj x4).bind fun y5=>(Vr 56 s0_.2.2 ([y5]:List Zc)).bind fun l7=>cond (y5.Kind != 0) (some ((IntKind.i64.wrap (s0_.2.1+1)),l7)) (some (s0_.1,l7))).bind fun (z1:(Int×(List Zc)))=>some (.inl (z1.1,(IntKind.i64.wrap (s0_.2.1+1)),z1.2))) (some (.inr (s0_.1,s0_.2.2)))
noncomputable def Zao (Jj:(Zc→Option Zc)) (a0:Zc):Option Zc :=
 cond (a0.Kind == 0) (some (⟨0,[],[]⟩:Zc)) ((Zs (Qv Jj a0) (0,0,([]:List Zc))).bind fun (z10:(Int×(List Zc)))=>cond (a0.Kind == 1) ((Za0 a0.Words).bind fun y14=>(Zik z10.2 0 z10.1).bind fun l15=>some (⟨1,y14,l15⟩:Zc)) ((Vr 8 ([]:List Int) a0.Words).bind fun l17=>some (⟨a0.Kind,l17,z10.2⟩:Zc)))
noncomputable def X0:Nat→(Zc→Option Zc)
 | 0=>(fun _=>none)
 | k+1=>Zao ((X0 k))
noncomputable def Zay (a0:Zc):Option Zc:=lim fun k=>(X0 k) a0
noncomputable def Zaa (a0:(List Zc)) (s0_:(Int×(List Zc))):Option ((Int×(List Zc)) ⊕ (List Zc)) :=
 cond (decide (s0_.1 < (a0.length:Int))) ((Yx a0 s0_.1).bind fun x1=>(Zay x1).bind fun y2=>(Vr 56 s0_.2 ([y2]:List Zc)).bind fun l3=>some (.inl ((IntKind.i64.wrap (s0_.1+1)),l3))) (some (.inr s0_.2))
noncomputable def Gw (a0:(List Zc)):Option (List Zc) :=
 (Zs (Zaa a0) (0,([]:List Zc))).bind fun (z5:(List Zc))=>some z5
noncomputable def Qn (a0:(List Zg)) (a2:Int) (s0_:(Int×(List Zc))):Option ((Int×(List Zc)) ⊕ (Int×(List Zc))) :=
 (cond (decide (s0_.1 < (a0.length:Int))) ((Yx a0 s0_.1).bind fun x10=>cond (x10.Kind == 1) (some (cond (decide (s0_.1 < (a0.length:Int))) true false)) (some (cond (decide (s0_.1 < (a0.length:Int))) (cond (x10.Kind == 1) true (x10.Kind == 2)) false))) (some false)).bind fun (z5:Bool)=>cond z5 (((Yx a0 s0_.1).bind fun x19=>cond (x19.Kind == a2) ((Yx a0 s0_.1).bind fun x21=>(Gw x21.L).bind fun y23=>(Vr 56 s0_.2 y23).bind fun l24=>some l24) (some s0_.2)).bind fun (z16:(List Zc))=>some (.inl ((IntKind.i64.wrap (s0_.1+1)),z16))) (some (.inr (s0_.1,s0_.2)))
noncomputable def Gf (a0:(List Zg)) (a1:Int) (a2:Int):Option ((List Zc)×Int) :=
 (Zs (Qn a0 a2) (a1,([]:List Zc))).bind fun (z27:(Int×(List Zc)))=>some (z27.2,z27.1)
noncomputable def Uh (a0:Int) (a1:Zb):Option Bool :=
 some (cond (a1.Kind == 0) true (cond (cond (cond (a1.Kind == 2) (a0 == 9) false) ((a1.Words.length:Int) == 0) false) ((a1.Kids.length:Int) == 0) false))
noncomputable def Vy (Y8:(Zb→Option Zb)) (a0:Zb) (s0_:(Int×(List Zj))):Option ((Int×(List Zj)) ⊕ (List Zj)) :=
 cond (decide (s0_.1 < (a0.Kids.length:Int))) ((Yx a0.Kids s0_.1).bind fun x7=>(Y8 x7.E).bind fun y11=>(Vr 208 s0_.2 ([(⟨x7.At,y11⟩:Zj)]:List Zj)).bind fun l12=>some (.inl ((IntKind.i64.wrap (s0_.1+1)),l12))) (some (.inr s0_.2))
noncomputable def Zaq (Y8:(Zb→Option Zb)) (Qk:(Int→(List Zg)→Option (List Zg))) (a0:Zb):Option Zb :=
 cond (a0.Kind == 1) ((Zay a0.Old).bind fun y3=>(Zay a0.New).bind fun y4=>some (⟨1,y3,y4,[],[],0,[]⟩:Zb)) (cond (a0.Kind == 2) ((Vr 32 ([]:List Zu) a0.Words).bind fun l6=>(Zs (Vy Y8 a0) (0,([]:List Zj))).bind fun (z14:(List Zj))=>some (⟨2,⟨0,[],[]⟩,⟨0,[],[]⟩,l6,z14,0,[]⟩:Zb)) (cond (a0.Kind == 3) ((Qk a0.List_ a0.Ops).bind fun y16=>some (⟨3,⟨0,[],[]⟩,⟨0,[],[]⟩,[],[],a0.List_,y16⟩:Zb)) (some (⟨0,⟨0,[],[]⟩,⟨0,[],[]⟩,[],[],0,[]⟩:Zb))))
noncomputable def Xu (Y8:(Zb→Option Zb)) (a0:Int) (a1:(List Zg)) (s0_:(Int×(List Zg))):Option ((Int×(List Zg)) ⊕ ((List Zg) ⊕ (List Zg))) :=
 cond (decide (s0_.1 < (a1.length:Int))) (((Gf a1 s0_.1 1).bind fun y3=>(Gf a1 s0_.1 2).bind fun y5=>(cond (decide (0 < (y3.1.length:Int))) ((Vr 240 s0_.2 ([(⟨1,0,y3.1,⟨0,⟨0,[],[]⟩,⟨0,[],[]⟩,[],[],0,[]⟩⟩:Zg)]:List Zg)).bind fun l7=>some l7) (some s0_.2)).bind fun (z6:(List Zg))=>(cond (decide (0 < (y5.1.length:Int))) ((Vr 240 z6 ([(⟨2,0,y5.1,⟨0,⟨0,[],[]⟩,⟨0,[],[]⟩,[],[],0,[]⟩⟩:Zg)]:List Zg)).bind fun l10=>some l10) (some z6)).bind fun (z9:(List Zg))=>cond (decide ((a1.length:Int)≤y3.2)) (some (.inr z9)) ((Yx a1 y3.2).bind fun x14=>((Yx a1 y3.2).bind fun x19=>cond (x19.Kind == 3) ((Yx a1 y3.2).bind fun x24=>(Y8 x24.E).bind fun y26=>(Uh a0 y26).bind fun y28=>cond y28 (some (0,1,0,0,([]:(List Int)),([]:(List Zc)),0,([]:(List Int)),([]:(List Zc)),([]:(List Zu)),([]:(List Zj)),0,([]:(List Zg)))) (some (3,0,y26.Kind,y26.Old.Kind,y26.Old.Words,y26.Old.Kids,y26.New.Kind,y26.New.Words,y26.New.Kids,y26.Words,y26.Kids,y26.List_,y26.Ops))) (some (0,x14.N,0,0,([]:(List Int)),([]:(List Zc)),0,([]:(List Int)),([]:(List Zc)),([]:(List Zu)),([]:(List Zj)),0,([]:(List Zg))))).bind fun (z16:(Int×Int×Int×Int×(List Int)×(List Zc)×Int×(List Int)×(List Zc)×(List Zu)×(List Zj)×Int×(List Zg)))=>(cond (z16.1 == 0) (cond (decide (0 < (z9.length:Int))) ((Yx z9 (IntKind.i64.wrap ((z9.length:Int) - 1))).bind fun x36=>some (cond (cond (z16.1 == 0) (decide (0 < (z9.length:Int))) false) (x36.Kind == 0) false)) (some false)) (some false)).bind fun (z33:Bool)=>cond z33 ((Yx z9 (IntKind.i64.wrap ((z9.length:Int) - 1))).bind fun x40=>some (.inl (y3.2,(Zlw z9 (IntKind.i64.wrap ((z9.length:Int) - 1)) (⟨x40.Kind,(IntKind.i64.wrap (x40.N+z16.2.1)),x40.L,x40.E⟩:Zg))))) ((Vr 240 z9 ([(⟨z16.1,z16.2.1,[],⟨z16.2.2.1,⟨z16.2.2.2.1,z16.2.2.2.2.1,z16.2.2.2.2.2.1⟩,⟨z16.2.2.2.2.2.2.1,z16.2.2.2.2.2.2.2.1,z16.2.2.2.2.2.2.2.2.1⟩,z16.2.2.2.2.2.2.2.2.2.1,z16.2.2.2.2.2.2.2.2.2.2.1,z16.2.2.2.2.2.2.2.2.2.2.2.1,z16.2.2.2.2.2.2.2.2.2.2.2.2⟩⟩:Zg)]:List Zg)).bind fun l44=>some (.inl (y3.2,l44))))).bind fun (z1:((Int×(List Zg)) ⊕ (List Zg)))=>match z1 with | .inl z1=>some (.inl ((IntKind.i64.wrap (z1.1+1)),z1.2)) | .inr z1=>some (.inr (.inl z1))) (some (.inr (.inr s0_.2)))
noncomputable def Gd (Y8:(Zb→Option Zb)) (Qk:(Int→(List Zg)→Option (List Zg))) (a0:Int) (a1:(List Zg)):Option (List Zg) :=
 (Zs (Xu Y8 a0 a1) (0,([]:List Zg))).bind fun (z48:((List Zg) ⊕ (List Zg)))=>match z48 with | .inl z48=>some z48 | .inr z48=>some z48
noncomputable def Y7:Nat→((Zb→Option Zb)×(Int→(List Zg)→Option (List Zg)))
 | 0=>((fun _=>none),(fun _ _=>none))
 | k+1=>(Zaq ((Y7 k).1) ((Y7 k).2),Gd ((Y7 k).1) ((Y7 k).2))
noncomputable def Zdz (a0:Zb):Option Zb:=lim fun k=>(Y7 k).1 a0
noncomputable def Kl (a0:(List Zg)) (a1:Int) (s0_:(Int×Int)):Option ((Int×Int) ⊕ Int) :=
 cond (decide (s0_.2 < a1)) (((Yx a0 s0_.2).bind fun x4=>cond (x4.Kind == 0) ((Yx a0 s0_.2).bind fun x6=>some (IntKind.i64.wrap (s0_.1+x6.N))) (cond (x4.Kind == 2) ((Yx a0 s0_.2).bind fun x8=>some (IntKind.i64.wrap (s0_.1+(x8.L.length:Int)))) (cond (x4.Kind == 3) (some (IntKind.i64.wrap (s0_.1+1))) (some s0_.1)))).bind fun (z1:Int)=>some (.inl (z1,(IntKind.i64.wrap (s0_.2+1))))) (some (.inr s0_.1))
noncomputable def Kw (a0:(List Zg)) (a1:Int):Option Int :=
 (Zs (Kl a0 a1) (0,0)).bind fun (z14:Int)=>some z14
noncomputable def Vf (a0:(List Zg)) (s0_:(Int×Int)):Option ((Int×Int) ⊕ Int) :=
 cond (decide (s0_.2 < (a0.length:Int))) (((Yx a0 s0_.2).bind fun x4=>cond (x4.Kind == 0) ((Yx a0 s0_.2).bind fun x6=>some (IntKind.i64.wrap (s0_.1+x6.N))) (cond (x4.Kind == 1) ((Yx a0 s0_.2).bind fun x8=>some (IntKind.i64.wrap (s0_.1+(x8.L.length:Int)))) (cond (x4.Kind == 3) (some (IntKind.i64.wrap (s0_.1+1))) (some s0_.1)))).bind fun (z1:Int)=>some (.inl (z1,(IntKind.i64.wrap (s0_.2+1))))) (some (.inr s0_.1))
noncomputable def Vj (a0:(List Zg)) (a1:Int):Option Int :=
 (Zs (Vf a0) (0,a1)).bind fun (z14:Int)=>some z14
noncomputable def Kv (a0:Int) (a1:Int) (a2:Zg) (a3:Int):Option Zb :=
 (cond (decide (0 < a1)) ((Vr 240 ([]:List Zg) ([(⟨0,a1,[],⟨0,⟨0,[],[]⟩,⟨0,[],[]⟩,[],[],0,[]⟩⟩:Zg)]:List Zg)).bind fun l2=>some l2) (some ([]:List Zg))).bind fun (z1:(List Zg))=>(Vr 240 z1 ([a2]:List Zg)).bind fun l5=>(cond (decide (0 < a3)) ((Vr 240 l5 ([(⟨0,a3,[],⟨0,⟨0,[],[]⟩,⟨0,[],[]⟩,[],[],0,[]⟩⟩:Zg)]:List Zg)).bind fun l7=>some l7) (some l5)).bind fun (z6:(List Zg))=>some (⟨3,⟨0,[],[]⟩,⟨0,[],[]⟩,[],[],a0,z6⟩:Zb)
noncomputable def Vb (a0:Zb) (s0_:(Int×(List Zb))):Option ((Int×(List Zb)) ⊕ (List Zb)) :=
 cond (decide (s0_.1 < (a0.Words.length:Int))) ((Yx a0.Words s0_.1).bind fun x1=>(Vr 200 s0_.2 ([(⟨2,⟨0,[],[]⟩,⟨0,[],[]⟩,([x1]:List Zu),[],0,[]⟩:Zb)]:List Zb)).bind fun l2=>some (.inl ((IntKind.i64.wrap (s0_.1+1)),l2))) (some (.inr s0_.2))
noncomputable def Vc (a0:Zb) (s1_:(Int×(List Zb))) (y10:(List Zb)) (s2_:(Int×(List Zb))):Option ((Int×(List Zb)) ⊕ (List Zb)) :=
 cond (decide (s2_.1 < (y10.length:Int))) ((Yx a0.Kids s1_.1).bind fun x11=>(Yx y10 s2_.1).bind fun x13=>(Vr 200 s2_.2 ([(⟨2,⟨0,[],[]⟩,⟨0,[],[]⟩,[],([(⟨x11.At,x13⟩:Zj)]:List Zj),0,[]⟩:Zb)]:List Zb)).bind fun l14=>some (.inl ((IntKind.i64.wrap (s2_.1+1)),l14))) (some (.inr s2_.2))
noncomputable def Jo (Xs:(Zb→Option (List Zb))) (a0:Zb) (s1_:(Int×(List Zb))):Option ((Int×(List Zb)) ⊕ (List Zb)) :=
 cond (decide (s1_.1 < (a0.Kids.length:Int))) ((Yx a0.Kids s1_.1).bind fun x8=>(Xs x8.E).bind fun y10=>(Zs (Vc a0 s1_ y10) (0,s1_.2)).bind fun (z16:(List Zb))=>some (.inl ((IntKind.i64.wrap (s1_.1+1)),z16))) (some (.inr s1_.2))
noncomputable def Vd (a0:Zb) (s3_:(Int×(List Zb))) (y29:(List Zb)) (s4_:(Int×(List Zb))):Option ((Int×(List Zb)) ⊕ (List Zb)) :=
 cond (decide (s4_.1 < (y29.length:Int))) ((Kw a0.Ops s3_.1).bind fun y30=>(Yx y29 s4_.1).bind fun x31=>(Vj a0.Ops (IntKind.i64.wrap (s3_.1+1))).bind fun y32=>(Kv a0.List_ y30 (⟨3,0,[],x31⟩:Zg) y32).bind fun y33=>(Vr 200 s4_.2 ([y33]:List Zb)).bind fun l34=>some (.inl ((IntKind.i64.wrap (s4_.1+1)),l34))) (some (.inr s4_.2))
noncomputable def X4 (Xs:(Zb→Option (List Zb))) (a0:Zb) (s3_:(Int×(List Zb))):Option ((Int×(List Zb)) ⊕ (List Zb)) :=
 cond (decide (s3_.1 < (a0.Ops.length:Int))) (((Yx a0.Ops s3_.1).bind fun x21=>(cond (cond (x21.Kind == 1) true (x21.Kind == 2)) ((Kw a0.Ops s3_.1).bind fun y23=>(Vj a0.Ops (IntKind.i64.wrap (s3_.1+1))).bind fun y24=>(Kv a0.List_ y23 x21 y24).bind fun y25=>(Vr 200 s3_.2 ([y25]:List Zb)).bind fun l26=>some l26) (some s3_.2)).bind fun (z22:(List Zb))=>cond (x21.Kind == 3) ((Xs x21.E).bind fun y29=>(Zs (Vd a0 s3_ y29) (0,z22)).bind fun (z36:(List Zb))=>some z36) (some z22)).bind fun (z19:(List Zb))=>some (.inl ((IntKind.i64.wrap (s3_.1+1)),z19))) (some (.inr s3_.2))
noncomputable def Gn (Xs:(Zb→Option (List Zb))) (a0:Zb):Option (List Zb) :=
 cond (a0.Kind == 0) (some ([]:(List Zb))) ((Zs (Vb a0) (0,([]:List Zb))).bind fun (z4:(List Zb))=>(Zs (Jo Xs a0) (0,z4)).bind fun (z18:(List Zb))=>(Zs (X4 Xs a0) (0,z18)).bind fun (z39:(List Zb))=>cond ((z39.length:Int) == 0) (some ([a0]:List Zb)) (some z39))
noncomputable def Qm:Nat→(Zb→Option (List Zb))
 | 0=>(fun _=>none)
 | k+1=>Gn ((Qm k))
noncomputable def Zf0 (a0:Zb):Option (List Zb):=lim fun k=>(Qm k) a0
noncomputable def Gx (a0:Zb):Option (List Zb) :=
 (Zdz a0).bind fun y3=>(Zf0 y3).bind fun y4=>some y4
noncomputable def V4 (a0:(List Int)) (a1:(List Int)) (s0_:Int):Option (Int ⊕ (Unit ⊕ Unit)) :=
 cond (decide (s0_ < (a0.length:Int))) ((Yx a0 s0_).bind fun x3=>(Yx a1 s0_).bind fun x4=>cond (x3 != x4) (some (.inr (.inl ()))) (some (.inl (IntKind.i64.wrap (s0_+1))))) (some (.inr (.inr ())))
noncomputable def Zax (a0:(List Int)) (a1:(List Int)):Option Bool :=
 cond ((a0.length:Int) != (a1.length:Int)) (some false) ((Zs (V4 a0 a1) 0).bind fun (z7:(Unit ⊕ Unit))=>match z7 with | .inl z7=>some false | .inr z7=>some true)
noncomputable def Vw (Jk:(Zc→Zc→Option Bool)) (a0:Zc) (a1:Zc) (s0_:Int):Option (Int ⊕ (Unit ⊕ Unit)) :=
 cond (decide (s0_ < (a0.Kids.length:Int))) ((Yx a0.Kids s0_).bind fun x9=>(Yx a1.Kids s0_).bind fun x10=>(Jk x9 x10).bind fun y11=>cond (!y11) (some (.inr (.inl ()))) (some (.inl (IntKind.i64.wrap (s0_+1))))) (some (.inr (.inr ())))
noncomputable def Zap (Jk:(Zc→Zc→Option Bool)) (a0:Zc) (a1:Zc):Option Bool :=
 (cond (a0.Kind != a1.Kind) (some true) ((Zax a0.Words a1.Words).bind fun y4=>some (cond (cond (a0.Kind != a1.Kind) true (!y4)) true ((a0.Kids.length:Int) != (a1.Kids.length:Int))))).bind fun (z2:Bool)=>cond z2 (some false) ((Zs (Vw Jk a0 a1) 0).bind fun (z14:(Unit ⊕ Unit))=>match z14 with | .inl z14=>some false | .inr z14=>some true)
noncomputable def J3:Nat→(Zc→Zc→Option Bool)
 | 0=>(fun _ _=>none)
 | k+1=>Zap ((J3 k))
noncomputable def Zaz (a0:Zc) (a1:Zc):Option Bool:=lim fun k=>(J3 k) a0 a1
noncomputable def K5 (a0:(List Zc)) (a1:(List Zc)) (s0_:Int):Option (Int ⊕ (Unit ⊕ Unit)) :=
 cond (decide (s0_ < (a0.length:Int))) ((Yx a0 s0_).bind fun x4=>(Yx a1 s0_).bind fun x5=>(Zaz x4 x5).bind fun y6=>cond (!y6) (some (.inr (.inl ()))) (some (.inl (IntKind.i64.wrap (s0_+1))))) (some (.inr (.inr ())))
noncomputable def Kk (a0:(List Zc)) (a1:(List Zc)):Option Bool :=
 cond ((a0.length:Int) != (a1.length:Int)) (some false) ((Zs (K5 a0 a1) 0).bind fun (z9:(Unit ⊕ Unit))=>match z9 with | .inl z9=>some false | .inr z9=>some true)
noncomputable def Vz (a0:Zb) (a1:Zb) (s0_:Int):Option (Int ⊕ (Unit ⊕ Unit)) :=
 cond (decide (s0_ < (a0.Words.length:Int))) ((Yx a0.Words s0_).bind fun x13=>(Yx a1.Words s0_).bind fun x14=>cond (!((x13.At == x14.At) && ((x13.Mask == x14.Mask) && ((x13.Old == x14.Old) && (x13.New == x14.New))))) (some (.inr (.inl ()))) (some (.inl (IntKind.i64.wrap (s0_+1))))) (some (.inr (.inr ())))
noncomputable def V0 (Xy:(Zb→Zb→Option Bool)) (a0:Zb) (a1:Zb) (s1_:Int):Option (Int ⊕ (Unit ⊕ Unit)) :=
 cond (decide (s1_ < (a0.Kids.length:Int))) (((Yx a0.Kids s1_).bind fun x37=>(Yx a1.Kids s1_).bind fun x39=>cond (x37.At != x39.At) (some true) ((Xy x37.E x39.E).bind fun y45=>some (cond (x37.At != x39.At) true (!y45)))).bind fun (z27:Bool)=>cond z27 (some (.inr (.inl ()))) (some (.inl (IntKind.i64.wrap (s1_+1))))) (some (.inr (.inr ())))
noncomputable def V1 (Xy:(Zb→Zb→Option Bool)) (a0:Zb) (a1:Zb) (s2_:Int):Option (Int ⊕ (Unit ⊕ Unit)) :=
 cond (decide (s2_ < (a0.Ops.length:Int))) ((Yx a0.Ops s2_).bind fun x50=>(Yx a1.Ops s2_).bind fun x51=>(cond (x50.Kind != x51.Kind) (some true) (cond (x50.N != x51.N) (some true) ((Kk x50.L x51.L).bind fun y57=>cond y57 ((Xy x50.E x51.E).bind fun y58=>some (cond (cond (cond (x50.Kind != x51.Kind) true (x50.N != x51.N)) true (!y57)) true (!y58))) (some true)))).bind fun (z54:Bool)=>cond z54 (some (.inr (.inl ()))) (some (.inl (IntKind.i64.wrap (s2_+1))))) (some (.inr (.inr ())))
noncomputable def Zar (Xy:(Zb→Zb→Option Bool)) (a0:Zb) (a1:Zb):Option Bool :=
 (cond (a0.Kind != a1.Kind) (some true) (cond (a0.List_ != a1.List_) (some true) ((Zaz a0.Old a1.Old).bind fun y6=>cond y6 ((Zaz a0.New a1.New).bind fun y7=>some (cond (cond (cond (cond (cond (cond (a0.Kind != a1.Kind) true (a0.List_ != a1.List_)) true (!y6)) true (!y7)) true ((a0.Words.length:Int) != (a1.Words.length:Int))) true ((a0.Kids.length:Int) != (a1.Kids.length:Int))) true ((a0.Ops.length:Int) != (a1.Ops.length:Int)))) (some true)))).bind fun (z3:Bool)=>cond z3 (some false) ((Zs (Vz a0 a1) 0).bind fun (z17:(Unit ⊕ Unit))=>match z17 with | .inl z17=>some false | .inr z17=>(Zs (V0 Xy a0 a1) 0).bind fun (z49:(Unit ⊕ Unit))=>match z49 with | .inl z49=>some false | .inr z49=>(Zs (V1 Xy a0 a1) 0).bind fun (z64:(Unit ⊕ Unit))=>match z64 with | .inl z64=>some false | .inr z64=>some true)
noncomputable def J4:Nat→(Zb→Zb→Option Bool)
 | 0=>(fun _ _=>none)
 | k+1=>Zar ((J4 k))
noncomputable def Zd0 (a0:Zb) (a1:Zb):Option Bool:=lim fun k=>(J4 k) a0 a1
noncomputable def Gg (a0:Zc):Option Bool :=
 some (cond (a0.Kind != 0) true (decide (0 < (IntKind.i64.wrap ((a0.Words.length:Int)+(a0.Kids.length:Int))))))
noncomputable def V7 (a0:Bool) (a1:Bool) (a2:Bool) (a3:Zb):Option Bool :=
 (cond a0 ((Gg a3.Old).bind fun y6=>cond y6 (some false) ((Gg a3.New).bind fun y7=>some (cond (cond (!(cond a0 (cond y6 true y7) false)) (!(cond a1 (decide (0 < (IntKind.i64.wrap ((a3.Words.length:Int)+(a3.Kids.length:Int))))) false)) false) (!(cond a2 (cond (a3.List_ != 0) true (decide (0 < (a3.Ops.length:Int)))) false)) false))) (some (cond (!(cond a1 (decide (0 < (IntKind.i64.wrap ((a3.Words.length:Int)+(a3.Kids.length:Int))))) false)) (!(cond a2 (cond (a3.List_ != 0) true (decide (0 < (a3.Ops.length:Int)))) false)) false))).bind fun (z3:Bool)=>some z3
noncomputable def Zga (a0:Int):Option Bool :=
 some (cond (decide (2≤a0)) (decide (a0≤9)) false)
noncomputable def V8 (a0:(List Zc)) (s0_:Int):Option (Int ⊕ (Unit ⊕ Unit)) :=
 cond (decide (s0_ < (a0.length:Int))) ((Yx a0 s0_).bind fun x2=>cond (x2.Kind != 1) (some (.inr (.inl ()))) (some (.inl (IntKind.i64.wrap (s0_+1))))) (some (.inr (.inr ())))
noncomputable def Za4 (a0:(List Zc)):Option Bool :=
 (Zs (V8 a0) 0).bind fun (z5:(Unit ⊕ Unit))=>match z5 with | .inl z5=>some false | .inr z5=>some true
noncomputable def Zmw (a0:Int):Option (Int×Bool) :=
 ((some (⟨[0,1,8,16,32,64],rfl⟩:(Arr Int 6)))).bind fun y6=>((some (⟨[0,0,0,0,0,0],rfl⟩:(Arr Int 6)))).bind fun y8=>cond (cond (decide (a0 < 0)) true (decide (6≤a0))) (some (0,false)) ((Yx y6.1 a0).bind fun x12=>some (x12,true))
noncomputable def Zia (a0:Int) (a1:Int):Option Bool :=
 (Zmw a0).bind fun y2=>(cond y2.2 ((Zmi (0≤y2.1)).bind fun u6=>some (cond y2.2 ((Int.fdiv a1 (2 ^ min (Int.toNat y2.1) 64)) == 0) false)) (some false)).bind fun (z4:Bool)=>some z4
noncomputable def Zgk (Xm:(Zc→Option Bool)) (Xi:(Zc→Int→Option Bool)) (Yv:((List Zc)→Int→Option Bool)) (Y4:((List Zc)→Int→Option Bool)) (a0:Zc):Option Bool :=
 cond (a0.Kind == 10) (some (cond ((a0.Words.length:Int) == 1) ((a0.Kids.length:Int) == 0) false)) ((Xi a0 64).bind fun y2=>some y2)
noncomputable def Zgl (Xm:(Zc→Option Bool)) (Xi:(Zc→Int→Option Bool)) (Yv:((List Zc)→Int→Option Bool)) (Y4:((List Zc)→Int→Option Bool)) (a0:Zc) (a1:Int):Option Bool :=
 cond (a0.Kind == 0) (some (cond ((a0.Words.length:Int) == 0) ((a0.Kids.length:Int) == 0) false)) (cond (a1 == 0) (some false) (cond (a0.Kind == 1) ((cond (decide ((a0.Words.length:Int) < 65536)) (cond (decide ((a0.Kids.length:Int) < 65536)) ((Yv a0.Kids (IntKind.i64.wrap (a1 - 1))).bind fun y4=>some (cond (cond (decide ((a0.Words.length:Int) < 65536)) (decide ((a0.Kids.length:Int) < 65536)) false) y4 false)) (some false)) (some false)).bind fun (z2:Bool)=>some z2) ((Zga a0.Kind).bind fun y8=>cond (cond (cond (!y8) true (decide (0 < (a0.Words.length:Int)))) true (decide (1048576≤(a0.Kids.length:Int)))) (some false) (cond (a0.Kind == 8) ((Yv a0.Kids (IntKind.i64.wrap (a1 - 1))).bind fun y10=>some y10) (cond (a0.Kind == 9) (((Za4 a0.Kids).bind fun y16=>cond y16 ((Yv a0.Kids (IntKind.i64.wrap (a1 - 1))).bind fun y17=>some (cond y16 y17 false)) (some false)).bind fun (z13:Bool)=>some z13) ((Y4 a0.Kids (IntKind.i64.wrap (a0.Kind - 2))).bind fun y20=>some y20))))))
noncomputable def Gs (Xi:(Zc→Int→Option Bool)) (a0:(List Zc)) (a1:Int) (s0_:Int):Option (Int ⊕ (Unit ⊕ Unit)) :=
 cond (decide (s0_ < (a0.length:Int))) ((Yx a0 s0_).bind fun x2=>(Xi x2 a1).bind fun y4=>cond (!y4) (some (.inr (.inl ()))) (some (.inl (IntKind.i64.wrap (s0_+1))))) (some (.inr (.inr ())))
noncomputable def Zdd (Xm:(Zc→Option Bool)) (Xi:(Zc→Int→Option Bool)) (Yv:((List Zc)→Int→Option Bool)) (Y4:((List Zc)→Int→Option Bool)) (a0:(List Zc)) (a1:Int):Option Bool :=
 (Zs (Gs Xi a0 a1) 0).bind fun (z7:(Unit ⊕ Unit))=>match z7 with | .inl z7=>some false | .inr z7=>some true
noncomputable def Gr (Xm:(Zc→Option Bool)) (a0:(List Zc)) (a1:Int) (s0_:Int):Option (Int ⊕ (Unit ⊕ Unit)) :=
 cond (decide (s0_ < (a0.length:Int))) ((Yx a0 s0_).bind fun x2=>(cond (x2.Kind != 10) (some true) ((Xm x2).bind fun y10=>cond y10 ((Yx x2.Words 0).bind fun x11=>(Zia a1 x11).bind fun y12=>some (cond (cond (x2.Kind != 10) true (!y10)) true (!y12))) (some true))).bind fun (z6:Bool)=>cond z6 (some (.inr (.inl ()))) (some (.inl (IntKind.i64.wrap (s0_+1))))) (some (.inr (.inr ())))
noncomputable def Zdc (Xm:(Zc→Option Bool)) (Xi:(Zc→Int→Option Bool)) (Yv:((List Zc)→Int→Option Bool)) (Y4:((List Zc)→Int→Option Bool)) (a0:(List Zc)) (a1:Int):Option Bool :=
 (Zs (Gr Xm a0 a1) 0).bind fun (z17:(Unit ⊕ Unit))=>match z17 with | .inl z17=>some false | .inr z17=>some true
noncomputable def Zx:Nat→((Zc→Option Bool)×(Zc→Int→Option Bool)×((List Zc)→Int→Option Bool)×((List Zc)→Int→Option Bool))
 | 0=>((fun _=>none),(fun _ _=>none),(fun _ _=>none),(fun _ _=>none))
 | k+1=>(Zgk ((Zx k).1) ((Zx k).2.1) ((Zx k).2.2.1) ((Zx k).2.2.2),Zgl ((Zx k).1) ((Zx k).2.1) ((Zx k).2.2.1) ((Zx k).2.2.2),Zdd ((Zx k).1) ((Zx k).2.1) ((Zx k).2.2.1) ((Zx k).2.2.2),Zdc ((Zx k).1) ((Zx k).2.1) ((Zx k).2.2.1) ((Zx k).2.2.2))
noncomputable def Zi6 (a0:Zc):Option Bool:=lim fun k=>(Zx k).1 a0
noncomputable def Zex (a0:Zc):Option Bool :=
 (cond (a0.Kind != 10) ((Zi6 a0).bind fun y4=>some (cond (a0.Kind != 10) y4 false)) (some false)).bind fun (z2:Bool)=>some z2
noncomputable def Zek (a0:Int) (s0_:(Int×Int)):Option ((Int×Int) ⊕ Int) :=
 cond (decide (s0_.2 < 8)) (((Zmi (0≤s0_.2)).bind fun u3=>cond ((IntKind.u8.wrap (Zln .u8 (Int.fdiv a0 (2 ^ min (Int.toNat s0_.2) 8)) 1)) == 1) ((Zmi (0≤(IntKind.i64.wrap (8 * s0_.2)))).bind fun u4=>some (IntKind.u64.wrap (Z62 .u64 s0_.1 (IntKind.u64.wrap (255 * 2 ^ min (Int.toNat (IntKind.i64.wrap (8 * s0_.2))) 64))))) (some s0_.1)).bind fun (z1:Int)=>some (.inl (z1,(IntKind.i64.wrap (s0_.2+1))))) (some (.inr s0_.1))
noncomputable def Zgb (a0:Int):Option Int :=
 (Zs (Zek a0) (0,0)).bind fun (z7:Int)=>some z7
noncomputable def V6 (a0:(List Zu)) (s0_:(Int×Int)):Option ((Int×Int) ⊕ (Unit ⊕ Unit)) :=
 cond (decide (s0_.2 < (a0.length:Int))) ((Yx a0 s0_.2).bind fun x2=>(Zgb x2.Mask).bind fun y4=>cond (cond (cond (cond (cond (decide (x2.At≤s0_.1)) true (decide (65534 < x2.At))) true (x2.Mask == 0)) true ((IntKind.u64.wrap (Zln .u64 x2.Old (IntKind.u64.wrap (Znp .u64 (if IntKind.signed .u64=true then -1 else IntKind.max .u64) y4)))) != 0)) true ((IntKind.u64.wrap (Zln .u64 x2.New (IntKind.u64.wrap (Znp .u64 (if IntKind.signed .u64=true then -1 else IntKind.max .u64) y4)))) != 0)) (some (.inr (.inl ()))) (some (.inl (x2.At,(IntKind.i64.wrap (s0_.2+1)))))) (some (.inr (.inr ())))
noncomputable def Za3 (a0:(List Zu)):Option Bool :=
 (Zs (V6 a0) ((-1),0)).bind fun (z7:(Unit ⊕ Unit))=>match z7 with | .inl z7=>some false | .inr z7=>some true
noncomputable def Zdf (a0:Int) (a1:Zb):Option Bool :=
 cond (a0 == 8) (some (a1.Kind != 0)) (cond (a0 == 9) (some (cond (a1.Kind == 2) true (cond (cond (a1.Kind == 1) (a1.Old.Kind == 1) false) (a1.New.Kind == 1) false))) (some false))
noncomputable def Zgi (Yo:(Zb→Option Bool)) (Yl:(Zb→Int→Option Bool)) (Z9:((List Zj)→Int→Option Bool)) (Ya:(Zb→Int→Option Bool)) (Yc:(Int→Zg→Int→Option Bool)) (Z5:(Bool→Bool→Bool→Zg→Option Bool)) (a0:Zb):Option Bool :=
 (Yl a0 64).bind fun y2=>some y2
noncomputable def Zgj (Yo:(Zb→Option Bool)) (Yl:(Zb→Int→Option Bool)) (Z9:((List Zj)→Int→Option Bool)) (Ya:(Zb→Int→Option Bool)) (Yc:(Int→Zg→Int→Option Bool)) (Z5:(Bool→Bool→Bool→Zg→Option Bool)) (a0:Zb) (a1:Int):Option Bool :=
 cond (a1 == 0) (some false) (cond (a0.Kind == 0) ((V7 true true true a0).bind fun y2=>some y2) (cond (a0.Kind == 1) (((V7 false true true a0).bind fun y10=>cond y10 ((Zex a0.Old).bind fun y11=>cond y11 ((Zex a0.New).bind fun y12=>some (cond (cond y10 y11 false) y12 false)) (some false)) (some false)).bind fun (z6:Bool)=>some z6) (cond (a0.Kind == 2) (((V7 true false true a0).bind fun y22=>cond y22 ((Za3 a0.Words).bind fun y23=>cond y23 ((Z9 a0.Kids (IntKind.i64.wrap (a1 - 1))).bind fun y24=>some (cond (cond y22 y23 false) y24 false)) (some false)) (some false)).bind fun (z18:Bool)=>some z18) (cond (a0.Kind == 3) (((V7 true true false a0).bind fun y32=>cond y32 ((Ya a0 (IntKind.i64.wrap (a1 - 1))).bind fun y33=>some (cond y32 y33 false)) (some false)).bind fun (z29:Bool)=>some z29) (some false)))))
noncomputable def Uu (Yl:(Zb→Int→Option Bool)) (a0:(List Zj)) (a1:Int) (s0_:(Int×Int)):Option ((Int×Int) ⊕ (Unit ⊕ Unit)) :=
 cond (decide (s0_.2 < (a0.length:Int))) ((Yx a0 s0_.2).bind fun x2=>(cond (decide (x2.At≤s0_.1)) (some true) (cond (decide (65534 < x2.At)) (some true) (cond (x2.E.Kind == 0) (some true) ((Yl x2.E a1).bind fun y6=>some (cond (cond (cond (decide (x2.At≤s0_.1)) true (decide (65534 < x2.At))) true (x2.E.Kind == 0)) true (!y6)))))).bind fun (z4:Bool)=>cond z4 (some (.inr (.inl ()))) (some (.inl (x2.At,(IntKind.i64.wrap (s0_.2+1)))))) (some (.inr (.inr ())))
noncomputable def Zcb (Yo:(Zb→Option Bool)) (Yl:(Zb→Int→Option Bool)) (Z9:((List Zj)→Int→Option Bool)) (Ya:(Zb→Int→Option Bool)) (Yc:(Int→Zg→Int→Option Bool)) (Z5:(Bool→Bool→Bool→Zg→Option Bool)) (a0:(List Zj)) (a1:Int):Option Bool :=
 (Zs (Uu Yl a0 a1) ((-1),0)).bind fun (z12:(Unit ⊕ Unit))=>match z12 with | .inl z12=>some false | .inr z12=>some true
noncomputable def Gp (Yc:(Int→Zg→Int→Option Bool)) (a0:Zb) (a1:Int) (s0_:Int):Option (Int ⊕ (Unit ⊕ Unit)) :=
 cond (decide (s0_ < (a0.Ops.length:Int))) ((Yx a0.Ops s0_).bind fun x4=>(Yc a0.List_ x4 a1).bind fun y6=>cond (!y6) (some (.inr (.inl ()))) (some (.inl (IntKind.i64.wrap (s0_+1))))) (some (.inr (.inr ())))
noncomputable def Zdb (Yo:(Zb→Option Bool)) (Yl:(Zb→Int→Option Bool)) (Z9:((List Zj)→Int→Option Bool)) (Ya:(Zb→Int→Option Bool)) (Yc:(Int→Zg→Int→Option Bool)) (Z5:(Bool→Bool→Bool→Zg→Option Bool)) (a0:Zb) (a1:Int):Option Bool :=
 (Zga a0.List_).bind fun y2=>cond (!y2) (some false) ((Zs (Gp Yc a0 a1) 0).bind fun (z9:(Unit ⊕ Unit))=>match z9 with | .inl z9=>some false | .inr z9=>(Km a0).bind fun y11=>some (cond (decide (y11.1 < 1048576)) (decide (y11.2 < 1048576)) false))
noncomputable def Zea (Yo:(Zb→Option Bool)) (Yl:(Zb→Int→Option Bool)) (Z9:((List Zj)→Int→Option Bool)) (Ya:(Zb→Int→Option Bool)) (Yc:(Int→Zg→Int→Option Bool)) (Z5:(Bool→Bool→Bool→Zg→Option Bool)) (a0:Int) (a1:Zg) (a2:Int):Option Bool :=
 (cond (a1.Kind == 0) ((Z5 false true true a1).bind fun y3=>some (.inr (.inl (cond (cond y3 (decide (1≤a1.N)) false) (decide (a1.N≤1048576)) false)))) (cond (a1.Kind == 1) (some (.inl ())) (cond (a1.Kind == 2) (some (.inl ())) (cond (a1.Kind == 3) (some (.inr (.inr (.inl ())))) (some (.inr (.inr (.inr ())))))))).bind fun (z1:(Unit ⊕ (Bool ⊕ (Unit ⊕ Unit))))=>match z1 with | .inl z1=>((Z5 true false true a1).bind fun y13=>cond y13 (cond (decide (0 < (a1.L.length:Int))) ((Zi6 (⟨a0,[],a1.L⟩:Zc)).bind fun y14=>some (cond (cond y13 (decide (0 < (a1.L.length:Int))) false) y14 false)) (some false)) (some false)).bind fun (z10:Bool)=>some z10 | .inr z1=>match z1 with | .inl z1=>some z1 | .inr z1=>match z1 with | .inl z1=>((Z5 true true false a1).bind fun y24=>cond y24 ((Zdf a0 a1.E).bind fun y25=>cond y25 ((Yl a1.E a2).bind fun y26=>some (cond (cond y24 y25 false) y26 false)) (some false)) (some false)).bind fun (z20:Bool)=>some z20 | .inr z1=>some false
noncomputable def Zcc (Yo:(Zb→Option Bool)) (Yl:(Zb→Int→Option Bool)) (Z9:((List Zj)→Int→Option Bool)) (Ya:(Zb→Int→Option Bool)) (Yc:(Int→Zg→Int→Option Bool)) (Z5:(Bool→Bool→Bool→Zg→Option Bool)) (a0:Bool) (a1:Bool) (a2:Bool) (a3:Zg):Option Bool :=
 (cond a0 (cond (a3.N != 0) (some false) (cond a1 (cond (decide (0 < (a3.L.length:Int))) (some false) (cond a2 (cond (a3.E.Kind != 0) (some (cond (cond (!(cond a0 (a3.N != 0) false)) (!(cond a1 (decide (0 < (a3.L.length:Int))) false)) false) (!(cond a2 true false)) false)) ((Yo a3.E).bind fun y10=>some (cond (cond (!(cond a0 (a3.N != 0) false)) (!(cond a1 (decide (0 < (a3.L.length:Int))) false)) false) (!(cond a2 (cond (a3.E.Kind != 0) true (!y10)) false)) false))) (some (cond (cond (!(cond a0 (a3.N != 0) false)) (!(cond a1 (decide (0 < (a3.L.length:Int))) false)) false) true false)))) (cond a2 (cond (a3.E.Kind != 0) (some (cond (cond (!(cond a0 (a3.N != 0) false)) (!(cond a1 (decide (0 < (a3.L.length:Int))) false)) false) (!(cond a2 true false)) false)) ((Yo a3.E).bind fun y11=>some (cond (cond (!(cond a0 (a3.N != 0) false)) (!(cond a1 (decide (0 < (a3.L.length:Int))) false)) false) (!(cond a2 (cond (a3.E.Kind != 0) true (!y11)) false)) false))) (some (cond (cond (!(cond a0 (a3.N != 0) false)) (!(cond a1 (decide (0 < (a3.L.length:Int))) false)) false) true false))))) (cond a1 (cond (decide (0 < (a3.L.length:Int))) (some false) (cond a2 (cond (a3.E.Kind != 0) (some (cond (cond (!(cond a0 (a3.N != 0) false)) (!(cond a1 (decide (0 < (a3.L.length:Int))) false)) false) (!(cond a2 true false)) false)) ((Yo a3.E).bind fun y12=>some (cond (cond (!(cond a0 (a3.N != 0) false)) (!(cond a1 (decide (0 < (a3.L.length:Int))) false)) false) (!(cond a2 (cond (a3.E.Kind != 0) true (!y12)) false)) false))) (some (cond (cond (!(cond a0 (a3.N != 0) false)) (!(cond a1 (decide (0 < (a3.L.length:Int))) false)) false) true false)))) (cond a2 (cond (a3.E.Kind != 0) (some (cond (cond (!(cond a0 (a3.N != 0) false)) (!(cond a1 (decide (0 < (a3.L.length:Int))) false)) false) (!(cond a2 true false)) false)) ((Yo a3.E).bind fun y13=>some (cond (cond (!(cond a0 (a3.N != 0) false)) (!(cond a1 (decide (0 < (a3.L.length:Int))) false)) false) (!(cond a2 (cond (a3.E.Kind != 0) true (!y13)) false)) false))) (some (cond (cond (!(cond a0 (a3.N != 0) false)) (!(cond a1 (decide (0 < (a3.L.length:Int))) false)) false) true false))))).bind fun (z5:Bool)=>some z5
noncomputable def Zm:Nat→((Zb→Option Bool)×(Zb→Int→Option Bool)×((List Zj)→Int→Option Bool)×(Zb→Int→Option Bool)×(Int→Zg→Int→Option Bool)×(Bool→Bool→Bool→Zg→Option Bool))
 | 0=>((fun _=>none),(fun _ _=>none),(fun _ _=>none),(fun _ _=>none),(fun _ _ _=>none),(fun _ _ _ _=>none))
 | k+1=>(Zgi ((Zm k).1) ((Zm k).2.1) ((Zm k).2.2.1) ((Zm k).2.2.2.1) ((Zm k).2.2.2.2.1) ((Zm k).2.2.2.2.2),Zgj ((Zm k).1) ((Zm k).2.1) ((Zm k).2.2.1) ((Zm k).2.2.2.1) ((Zm k).2.2.2.2.1) ((Zm k).2.2.2.2.2),Zcb ((Zm k).1) ((Zm k).2.1) ((Zm k).2.2.1) ((Zm k).2.2.2.1) ((Zm k).2.2.2.2.1) ((Zm k).2.2.2.2.2),Zdb ((Zm k).1) ((Zm k).2.1) ((Zm k).2.2.1) ((Zm k).2.2.2.1) ((Zm k).2.2.2.2.1) ((Zm k).2.2.2.2.2),Zea ((Zm k).1) ((Zm k).2.1) ((Zm k).2.2.1) ((Zm k).2.2.2.1) ((Zm k).2.2.2.2.1) ((Zm k).2.2.2.2.2),Zcc ((Zm k).1) ((Zm k).2.1) ((Zm k).2.2.1) ((Zm k).2.2.2.1) ((Zm k).2.2.2.2.1) ((Zm k).2.2.2.2.2))
noncomputable def Zmv (a0:Zb):Option Bool:=lim fun k=>(Zm k).1 a0
noncomputable def Qz (y13:(List Zb)) (y14:(List Zb)) (s0_:Int):Option (Int ⊕ (Unit ⊕ Unit)) :=
 cond (decide (s0_ < (y13.length:Int))) (((Yx y13 s0_).bind fun x34=>(Yx y14 s0_).bind fun x35=>(Zd0 x34 x35).bind fun y36=>cond y36 ((Zmv x34).bind fun y38=>cond y38 ((Zdz x34).bind fun y40=>(Zd0 y40 x34).bind fun y42=>some (cond (cond (!y36) true (!y38)) true (!y42))) (some true)) (some true)).bind fun (z24:Bool)=>cond z24 (some (.inr (.inl ()))) (some (.inl (IntKind.i64.wrap (s0_+1))))) (some (.inr (.inr ())))
noncomputable def Ue (a0:Zb):Option Bool :=
 ((Za1 a0).bind fun y6=>cond y6 ((Zfx a0).bind fun y7=>some (cond (!y6) true (decide (200 < y7)))) (some true)).bind fun (z3:Bool)=>cond z3 ((Vh).bind fun y10=>some y10) ((Ga a0).bind fun y13=>(Gx a0).bind fun y14=>cond ((y13.length:Int) != (y14.length:Int)) (some false) ((Zs (Qz y13 y14) 0).bind fun (z47:(Unit ⊕ Unit))=>match z47 with | .inl z47=>some false | .inr z47=>(Vh).bind fun y49=>some y49))
mutual
def Zbr:Zc→List G
 | ⟨f0,f1,f2⟩=>[.val (.int .i64 f0),.sl f1.length (fl (eI .u64) f1),.sl f2.length (Zbs f2)]
def Zbs:List Zc→List G
 | []=>[]
 | x::xs=>Zbr x++Zbs xs
end
theorem Zlf:∀ xs,Zbs xs=fl Zbr xs
 | []=>by simp [Zbs,fl]
 | x::xs=>by rw [Zbs,G8,Zlf xs]
def Za (x:Zc):List G:=[.val (.int .i64 x.Kind),.sl x.Words.length (fl (eI .u64) x.Words),.sl x.Kids.length (fl Zbr x.Kids)]
theorem Yq:Zbr=Za:=by
 funext x
 obtain ⟨_,_,_⟩:=x
 simp only [Zbr,Zlf,Za,List.cons_append,List.nil_append,List.append_nil]
mutual
theorem Zjx:∀ x,G.pures (Zbr x)=true
 | ⟨f0,f1,f2⟩=>by simp [Zbr,eP,Kp,eI,eB,eS,eL,G.pures,G.pure,Zdu,Yb,Znt f2]
theorem Znt:∀ xs,G.pures (Zbs xs)=true
 | []=>rfl
 | x::xs=>by simp [Zbs,Zdu,Zjx x,Znt xs]
end
theorem Zjy:∀ x,G.pures (Za x)=true:=fun x=>by rw [← Yq];exact Zjx x
theorem Ky:∀ x,G.pures ((eI .u64) x)=true:=fun x=>by simp [eI,eB,eS,eL,eP,G.pures,G.pure,Yb,Kp,Yq]
theorem Znk {O O':Objs} {n:Nat} (xs:List Int):G7 O O' n (fl (eI .u64) xs) (fl (eI .u64) xs):=Zeq (Yb Ky xs)
theorem Zni {O O':Objs} {n:Nat} (xs:List Int) (b b':List G):G7 O O' n (fl (eI .u64) xs++b) (fl (eI .u64) xs++b')=G7 O O' n b b':=Zdp b b' _ (Yb Ky xs)
theorem Zmo (xs:List Int):(fl (eI .u64) xs).length=xs.length * 1:=Qu (f:=(eI .u64)) (k:=1) (fun _=>rfl) xs
theorem Zmz (xs:List Int):(fl (eI .u64) xs).all G.one=true:=Ul (fun x=>by simp [eI,eB,eS,eL,eP,Zf3,G.one,Value.oneCell']) xs
theorem Znm {O O':Objs} {n:Nat} (x:Option Int):wk O O' n (gP (eI .u64) x) (gP (eI .u64) x)=True:=Zox Ky x
theorem Zk2 {k:Nat} (x:Option Int):(gP (eI .u64) x).under k=true:=Zdo Ky k x
theorem Zky {ρ:Nat→Nat} (xs:List Int):G.rens ρ (fl (eI .u64) xs)=fl (eI .u64) xs:=Kc ρ _ (Yb Ky xs)
theorem Zkw {ρ:Nat→Nat} (x:Option Int):(gP (eI .u64) x).ren ρ=gP (eI .u64) x:=Zcq ρ _ (Kp Ky x)
theorem Znf {k:Nat} (xs:List Int):G.unders k (fl (eI .u64) xs)=true:=Xt _ _ (Yb Ky xs)
theorem Xf:∀ x,G.pures (Za x)=true:=fun x=>by rw [← Yq];exact Zjx x
theorem Zfa {O O':Objs} {n:Nat} (xs:List Zc):G7 O O' n (fl Za xs) (fl Za xs):=Zeq (Yb Xf xs)
theorem Ze8 {O O':Objs} {n:Nat} (xs:List Zc) (b b':List G):G7 O O' n (fl Za xs++b) (fl Za xs++b')=G7 O O' n b b':=Zdp b b' _ (Yb Xf xs)
theorem Zew (xs:List Zc):(fl Za xs).length=xs.length * 3:=Qu (f:=Za) (k:=3) (fun _=>rfl) xs
theorem Ze3 (xs:List Zc):(fl Za xs).all G.one=true:=Ul (fun x=>by simp [eI,eB,eS,eL,eP,Zf3,G.one,Value.oneCell',Za]) xs
theorem Zfc {O O':Objs} {n:Nat} (x:Option Zc):wk O O' n (gP Za x) (gP Za x)=True:=Zox Xf x
theorem Zd9 {k:Nat} (x:Option Zc):(gP Za x).under k=true:=Zdo Xf k x
theorem Zd6 {ρ:Nat→Nat} (xs:List Zc):G.rens ρ (fl Za xs)=fl Za xs:=Kc ρ _ (Yb Xf xs)
theorem Zd4 {ρ:Nat→Nat} (x:Option Zc):(gP Za x).ren ρ=gP Za x:=Zcq ρ _ (Kp Xf x)
theorem Ze6 {k:Nat} (xs:List Zc):G.unders k (fl Za xs)=true:=Xt _ _ (Yb Xf xs)
def Zi (x:Zu):List G:=[.val (.int .i64 x.At),.val (.int .u8 x.Mask),.val (.int .u64 x.Old),.val (.int .u64 x.New)]
mutual
def Kh:Zb→List G
 | ⟨f0,f1,f2,f3,f4,f5,f6⟩=>[.val (.int .i64 f0),.val (.int .i64 f1.Kind),.sl f1.Words.length (fl (eI .u64) f1.Words),.sl f1.Kids.length (fl Za f1.Kids),.val (.int .i64 f2.Kind),.sl f2.Words.length (fl (eI .u64) f2.Words),.sl f2.Kids.length (fl Za f2.Kids),.sl f3.length (fl Zi f3),.sl f4.length (Vg f4),.val (.int .i64 f5),.sl f6.length (Zec f6)]
def Zds:List Zb→List G
 | []=>[]
 | x::xs=>Kh x++Zds xs
def X8:Zj→List G
 | ⟨f0,f1⟩=>[.val (.int .i64 f0)]++Kh f1
def Vg:List Zj→List G
 | []=>[]
 | x::xs=>X8 x++Vg xs
def V2:Zg→List G
 | ⟨f0,f1,f2,f3⟩=>[.val (.int .i64 f0),.val (.int .i64 f1),.sl f2.length (fl Za f2)]++Kh f3
def Zec:List Zg→List G
 | []=>[]
 | x::xs=>V2 x++Zec xs
end
theorem Zeu:∀ xs,Zds xs=fl Kh xs
 | []=>by simp [Zds,fl]
 | x::xs=>by rw [Zds,G8,Zeu xs]
theorem Zbv:∀ xs,Vg xs=fl X8 xs
 | []=>by simp [Vg,fl]
 | x::xs=>by rw [Vg,G8,Zbv xs]
theorem Zgm:∀ xs,Zec xs=fl V2 xs
 | []=>by simp [Zec,fl]
 | x::xs=>by rw [Zec,G8,Zgm xs]
def Zk (x:Zb):List G:=[.val (.int .i64 x.Kind),.val (.int .i64 x.Old.Kind),.sl x.Old.Words.length (fl (eI .u64) x.Old.Words),.sl x.Old.Kids.length (fl Za x.Old.Kids),.val (.int .i64 x.New.Kind),.sl x.New.Words.length (fl (eI .u64) x.New.Words),.sl x.New.Kids.length (fl Za x.New.Kids),.sl x.Words.length (fl Zi x.Words),.sl x.Kids.length (fl X8 x.Kids),.val (.int .i64 x.List_),.sl x.Ops.length (fl V2 x.Ops)]
def Zh (x:Zj):List G:=[.val (.int .i64 x.At),.val (.int .i64 x.E.Kind),.val (.int .i64 x.E.Old.Kind),.sl x.E.Old.Words.length (fl (eI .u64) x.E.Old.Words),.sl x.E.Old.Kids.length (fl Za x.E.Old.Kids),.val (.int .i64 x.E.New.Kind),.sl x.E.New.Words.length (fl (eI .u64) x.E.New.Words),.sl x.E.New.Kids.length (fl Za x.E.New.Kids),.sl x.E.Words.length (fl Zi x.E.Words),.sl x.E.Kids.length (fl X8 x.E.Kids),.val (.int .i64 x.E.List_),.sl x.E.Ops.length (fl V2 x.E.Ops)]
def Zd (x:Zg):List G:=[.val (.int .i64 x.Kind),.val (.int .i64 x.N),.sl x.L.length (fl Za x.L),.val (.int .i64 x.E.Kind),.val (.int .i64 x.E.Old.Kind),.sl x.E.Old.Words.length (fl (eI .u64) x.E.Old.Words),.sl x.E.Old.Kids.length (fl Za x.E.Old.Kids),.val (.int .i64 x.E.New.Kind),.sl x.E.New.Words.length (fl (eI .u64) x.E.New.Words),.sl x.E.New.Kids.length (fl Za x.E.New.Kids),.sl x.E.Words.length (fl Zi x.E.Words),.sl x.E.Kids.length (fl X8 x.E.Kids),.val (.int .i64 x.E.List_),.sl x.E.Ops.length (fl V2 x.E.Ops)]
theorem Xa:Kh=Zk:=by
 funext x
 obtain ⟨_,_,_,_,_,_,_⟩:=x
 simp only [Kh,Zeu,X8,Zbv,V2,Zgm,Zk,List.cons_append,List.nil_append,List.append_nil]
theorem Yr:X8=Zh:=by
 funext x
 obtain ⟨_,⟨_,_,_,_,_,_,_⟩⟩:=x
 simp only [Kh,Zeu,X8,Zbv,V2,Zgm,Zh,List.cons_append,List.nil_append,List.append_nil]
theorem Xo:V2=Zd:=by
 funext x
 obtain ⟨_,_,_,⟨_,_,_,_,_,_,_⟩⟩:=x
 simp only [Kh,Zeu,X8,Zbv,V2,Zgm,Zd,List.cons_append,List.nil_append,List.append_nil]
mutual
theorem Zg6:∀ x,G.pures (Kh x)=true
 | ⟨f0,f1,f2,f3,f4,f5,f6⟩=>by simp [Kh,eP,Kp,eI,eB,eS,eL,G.pures,G.pure,Zdu,Yb,Zjz f4,Zq8 f6,Ky,Xf,Zjy,Zi]
theorem Zv6:∀ xs,G.pures (Zds xs)=true
 | []=>rfl
 | x::xs=>by simp [Zds,Zdu,Zg6 x,Zv6 xs]
theorem Zku:∀ x,G.pures (X8 x)=true
 | ⟨f0,f1⟩=>by simp [X8,eP,Kp,eI,eB,eS,eL,G.pures,G.pure,Zdu,Yb,Zg6 f1,Ky,Xf,Zjy,Zi]
theorem Zjz:∀ xs,G.pures (Vg xs)=true
 | []=>rfl
 | x::xs=>by simp [Vg,Zdu,Zku x,Zjz xs]
theorem Zs5:∀ x,G.pures (V2 x)=true
 | ⟨f0,f1,f2,f3⟩=>by simp [V2,eP,Kp,eI,eB,eS,eL,G.pures,G.pure,Zdu,Yb,Zg6 f3,Ky,Xf,Zjy,Zi]
theorem Zq8:∀ xs,G.pures (Zec xs)=true
 | []=>rfl
 | x::xs=>by simp [Zec,Zdu,Zs5 x,Zq8 xs]
end
theorem Xb:∀ x,G.pures (Zi x)=true:=fun x=>by simp [eI,eB,eS,eL,eP,G.pures,G.pure,Yb,Kp,Zi,Ky,Xf,Yq,Xa,Yr,Xo]
theorem Zbm {O O':Objs} {n:Nat} (xs:List Zu):G7 O O' n (fl Zi xs) (fl Zi xs):=Zeq (Yb Xb xs)
theorem Zbk {O O':Objs} {n:Nat} (xs:List Zu) (b b':List G):G7 O O' n (fl Zi xs++b) (fl Zi xs++b')=G7 O O' n b b':=Zdp b b' _ (Yb Xb xs)
theorem Zaw (xs:List Zu):(fl Zi xs).length=xs.length * 4:=Qu (f:=Zi) (k:=4) (fun _=>rfl) xs
theorem Zba (xs:List Zu):(fl Zi xs).all G.one=true:=Ul (fun x=>by simp [eI,eB,eS,eL,eP,Zf3,G.one,Value.oneCell',Zi]) xs
theorem Zbo {O O':Objs} {n:Nat} (x:Option Zu):wk O O' n (gP Zi x) (gP Zi x)=True:=Zox Xb x
theorem Zai {k:Nat} (x:Option Zu):(gP Zi x).under k=true:=Zdo Xb k x
theorem Zaf {ρ:Nat→Nat} (xs:List Zu):G.rens ρ (fl Zi xs)=fl Zi xs:=Kc ρ _ (Yb Xb xs)
theorem Zad {ρ:Nat→Nat} (x:Option Zu):(gP Zi x).ren ρ=gP Zi x:=Zcq ρ _ (Kp Xb x)
theorem Zbg {k:Nat} (xs:List Zu):G.unders k (fl Zi xs)=true:=Xt _ _ (Yb Xb xs)
theorem Xn:∀ x,G.pures (Zh x)=true:=fun x=>by rw [← Yr];exact Zku x
theorem Zb8 {O O':Objs} {n:Nat} (xs:List Zj):G7 O O' n (fl Zh xs) (fl Zh xs):=Zeq (Yb Xn xs)
theorem Zb6 {O O':Objs} {n:Nat} (xs:List Zj) (b b':List G):G7 O O' n (fl Zh xs++b) (fl Zh xs++b')=G7 O O' n b b':=Zdp b b' _ (Yb Xn xs)
theorem Zbx (xs:List Zj):(fl Zh xs).length=xs.length * 12:=Qu (f:=Zh) (k:=12) (fun _=>rfl) xs
theorem Zb2 (xs:List Zj):(fl Zh xs).all G.one=true:=Ul (fun x=>by simp [eI,eB,eS,eL,eP,Zf3,G.one,Value.oneCell',Zh]) xs
theorem Zca {O O':Objs} {n:Nat} (x:Option Zj):wk O O' n (gP Zh x) (gP Zh x)=True:=Zox Xn x
theorem Zbi {k:Nat} (x:Option Zj):(gP Zh x).under k=true:=Zdo Xn k x
theorem Zbe {ρ:Nat→Nat} (xs:List Zj):G.rens ρ (fl Zh xs)=fl Zh xs:=Kc ρ _ (Yb Xn xs)
theorem Zbc {ρ:Nat→Nat} (x:Option Zj):(gP Zh x).ren ρ=gP Zh x:=Zcq ρ _ (Kp Xn x)
theorem Zb4 {k:Nat} (xs:List Zj):G.unders k (fl Zh xs)=true:=Xt _ _ (Yb Xn xs)
theorem Q4:∀ x,G.pures (Zd x)=true:=fun x=>by rw [← Xo];exact Zs5 x
theorem Zhd {O O':Objs} {n:Nat} (xs:List Zg):G7 O O' n (fl Zd xs) (fl Zd xs):=Zeq (Yb Q4 xs)
theorem Zhc {O O':Objs} {n:Nat} (xs:List Zg) (b b':List G):G7 O O' n (fl Zd xs++b) (fl Zd xs++b')=G7 O O' n b b':=Zdp b b' _ (Yb Q4 xs)
theorem Zgw (xs:List Zg):(fl Zd xs).length=xs.length * 14:=Qu (f:=Zd) (k:=14) (fun _=>rfl) xs
theorem Zg5 (xs:List Zg):(fl Zd xs).all G.one=true:=Ul (fun x=>by simp [eI,eB,eS,eL,eP,Zf3,G.one,Value.oneCell',Zd]) xs
theorem Zhe {O O':Objs} {n:Nat} (x:Option Zg):wk O O' n (gP Zd x) (gP Zd x)=True:=Zox Q4 x
theorem Zfv {k:Nat} (x:Option Zg):(gP Zd x).under k=true:=Zdo Q4 k x
theorem Zfu {ρ:Nat→Nat} (xs:List Zg):G.rens ρ (fl Zd xs)=fl Zd xs:=Kc ρ _ (Yb Q4 xs)
theorem Zft {ρ:Nat→Nat} (x:Option Zg):(gP Zd x).ren ρ=gP Zd x:=Zcq ρ _ (Kp Q4 x)
theorem Zhb {k:Nat} (xs:List Zg):G.unders k (fl Zd xs)=true:=Xt _ _ (Yb Q4 xs)
theorem Zeo:∀ x,G.pures ((eI .u8) x)=true:=fun x=>by simp [eI,eB,eS,eL,eP,G.pures,G.pure,Yb,Kp,Ky,Xf,Xb,Xn,Q4,Yq,Xa,Yr,Xo]
theorem Zqq {O O':Objs} {n:Nat} (xs:List Int):G7 O O' n (fl (eI .u8) xs) (fl (eI .u8) xs):=Zeq (Yb Zeo xs)
theorem Zqp {O O':Objs} {n:Nat} (xs:List Int) (b b':List G):G7 O O' n (fl (eI .u8) xs++b) (fl (eI .u8) xs++b')=G7 O O' n b b':=Zdp b b' _ (Yb Zeo xs)
theorem Zp0 (xs:List Int):(fl (eI .u8) xs).length=xs.length * 1:=Qu (f:=(eI .u8)) (k:=1) (fun _=>rfl) xs
theorem Zp4 (xs:List Int):(fl (eI .u8) xs).all G.one=true:=Ul (fun x=>by simp [eI,eB,eS,eL,eP,Zf3,G.one,Value.oneCell']) xs
theorem Zqr {O O':Objs} {n:Nat} (x:Option Int):wk O O' n (gP (eI .u8) x) (gP (eI .u8) x)=True:=Zox Zeo x
theorem Zng {k:Nat} (x:Option Int):(gP (eI .u8) x).under k=true:=Zdo Zeo k x
theorem Zm9 {ρ:Nat→Nat} (xs:List Int):G.rens ρ (fl (eI .u8) xs)=fl (eI .u8) xs:=Kc ρ _ (Yb Zeo xs)
theorem Zm8 {ρ:Nat→Nat} (x:Option Int):(gP (eI .u8) x).ren ρ=gP (eI .u8) x:=Zcq ρ _ (Kp Zeo x)
theorem Zqo {k:Nat} (xs:List Int):G.unders k (fl (eI .u8) xs)=true:=Xt _ _ (Yb Zeo xs)
def Yd (x:Zw):List G:=[.sl x.out.length (fl Zd x.out),.val (.int .i64 x.kept),.sl x.gone.length (fl Za x.gone),.sl x.come.length (fl Za x.come)]
theorem Xp:∀ x,G.pures (Yd x)=true:=fun x=>by simp [eI,eB,eS,eL,eP,G.pures,G.pure,Yb,Kp,Yd,Ky,Xf,Xb,Xn,Q4,Zeo,Yq,Xa,Yr,Xo]
theorem Zak {O O':Objs} {n:Nat} (xs:List Zw):G7 O O' n (fl Yd xs) (fl Yd xs):=Zeq (Yb Xp xs)
theorem Zaj {O O':Objs} {n:Nat} (xs:List Zw) (b b':List G):G7 O O' n (fl Yd xs++b) (fl Yd xs++b')=G7 O O' n b b':=Zdp b b' _ (Yb Xp xs)
theorem G9 (xs:List Zw):(fl Yd xs).length=xs.length * 4:=Qu (f:=Yd) (k:=4) (fun _=>rfl) xs
theorem Zab (xs:List Zw):(fl Yd xs).all G.one=true:=Ul (fun x=>by simp [eI,eB,eS,eL,eP,Zf3,G.one,Value.oneCell',Yd]) xs
theorem Zal {O O':Objs} {n:Nat} (x:Option Zw):wk O O' n (gP Yd x) (gP Yd x)=True:=Zox Xp x
theorem U9 {k:Nat} (x:Option Zw):(gP Yd x).under k=true:=Zdo Xp k x
theorem U8 {ρ:Nat→Nat} (xs:List Zw):G.rens ρ (fl Yd xs)=fl Yd xs:=Kc ρ _ (Yb Xp xs)
theorem U7 {ρ:Nat→Nat} (x:Option Zw):(gP Yd x).ren ρ=gP Yd x:=Zcq ρ _ (Kp Xp x)
theorem Zag {k:Nat} (xs:List Zw):G.unders k (fl Yd xs)=true:=Xt _ _ (Yb Xp xs)
theorem Q3:∀ x,G.pures (Zk x)=true:=fun x=>by rw [← Xa];exact Zg6 x
theorem Ze9 {O O':Objs} {n:Nat} (xs:List Zb):G7 O O' n (fl Zk xs) (fl Zk xs):=Zeq (Yb Q3 xs)
theorem Ze7 {O O':Objs} {n:Nat} (xs:List Zb) (b b':List G):G7 O O' n (fl Zk xs++b) (fl Zk xs++b')=G7 O O' n b b':=Zdp b b' _ (Yb Q3 xs)
theorem Zev (xs:List Zb):(fl Zk xs).length=xs.length * 11:=Qu (f:=Zk) (k:=11) (fun _=>rfl) xs
theorem Ze2 (xs:List Zb):(fl Zk xs).all G.one=true:=Ul (fun x=>by simp [eI,eB,eS,eL,eP,Zf3,G.one,Value.oneCell',Zk]) xs
theorem Zfb {O O':Objs} {n:Nat} (x:Option Zb):wk O O' n (gP Zk x) (gP Zk x)=True:=Zox Q3 x
theorem Zd8 {k:Nat} (x:Option Zb):(gP Zk x).under k=true:=Zdo Q3 k x
theorem Zd5 {ρ:Nat→Nat} (xs:List Zb):G.rens ρ (fl Zk xs)=fl Zk xs:=Kc ρ _ (Yb Q3 xs)
theorem Zd3 {ρ:Nat→Nat} (x:Option Zb):(gP Zk x).ren ρ=gP Zk x:=Zcq ρ _ (Kp Q3 x)
theorem Ze5 {k:Nat} (xs:List Zb):G.unders k (fl Zk xs)=true:=Xt _ _ (Yb Q3 xs)
def Yh (x:Yj):List G:=[.sl x.left.length (fl Zd x.left),.val (.int .i64 x.gone)]
theorem X5:∀ x,G.pures (Yh x)=true:=fun x=>by simp [eI,eB,eS,eL,eP,G.pures,G.pure,Yb,Kp,Yh,Ky,Xf,Xb,Xn,Q4,Zeo,Xp,Q3,Yq,Xa,Yr,Xo]
theorem Zbl {O O':Objs} {n:Nat} (xs:List Yj):G7 O O' n (fl Yh xs) (fl Yh xs):=Zeq (Yb X5 xs)
theorem Zbj {O O':Objs} {n:Nat} (xs:List Yj) (b b':List G):G7 O O' n (fl Yh xs++b) (fl Yh xs++b')=G7 O O' n b b':=Zdp b b' _ (Yb X5 xs)
theorem Zav (xs:List Yj):(fl Yh xs).length=xs.length * 2:=Qu (f:=Yh) (k:=2) (fun _=>rfl) xs
theorem Za9 (xs:List Yj):(fl Yh xs).all G.one=true:=Ul (fun x=>by simp [eI,eB,eS,eL,eP,Zf3,G.one,Value.oneCell',Yh]) xs
theorem Zbn {O O':Objs} {n:Nat} (x:Option Yj):wk O O' n (gP Yh x) (gP Yh x)=True:=Zox X5 x
theorem Zah {k:Nat} (x:Option Yj):(gP Yh x).under k=true:=Zdo X5 k x
theorem Zae {ρ:Nat→Nat} (xs:List Yj):G.rens ρ (fl Yh xs)=fl Yh xs:=Kc ρ _ (Yb X5 xs)
theorem Zac {ρ:Nat→Nat} (x:Option Yj):(gP Yh x).ren ρ=gP Yh x:=Zcq ρ _ (Kp X5 x)
theorem Zbf {k:Nat} (xs:List Yj):G.unders k (fl Yh xs)=true:=Xt _ _ (Yb X5 xs)
def Zy (x:Z7):List G:=[.val (.int .i64 x.Of),.val (.int .i64 x.P.Kind),.val (.int .i64 x.P.N),.sl x.P.L.length (fl Za x.P.L),.val (.int .i64 x.P.E.Kind),.val (.int .i64 x.P.E.Old.Kind),.sl x.P.E.Old.Words.length (fl (eI .u64) x.P.E.Old.Words),.sl x.P.E.Old.Kids.length (fl Za x.P.E.Old.Kids),.val (.int .i64 x.P.E.New.Kind),.sl x.P.E.New.Words.length (fl (eI .u64) x.P.E.New.Words),.sl x.P.E.New.Kids.length (fl Za x.P.E.New.Kids),.sl x.P.E.Words.length (fl Zi x.P.E.Words),.sl x.P.E.Kids.length (fl Zh x.P.E.Kids),.val (.int .i64 x.P.E.List_),.sl x.P.E.Ops.length (fl Zd x.P.E.Ops),.val (.int .i64 x.Q.Kind),.val (.int .i64 x.Q.N),.sl x.Q.L.length (fl Za x.Q.L),.val (.int .i64 x.Q.E.Kind),.val (.int .i64 x.Q.E.Old.Kind),.sl x.Q.E.Old.Words.length (fl (eI .u64) x.Q.E.Old.Words),.sl x.Q.E.Old.Kids.length (fl Za x.Q.E.Old.Kids),.val (.int .i64 x.Q.E.New.Kind),.sl x.Q.E.New.Words.length (fl (eI .u64) x.Q.E.New.Words),.sl x.Q.E.New.Kids.length (fl Za x.Q.E.New.Kids),.sl x.Q.E.Words.length (fl Zi x.Q.E.Words),.sl x.Q.E.Kids.length (fl Zh x.Q.E.Kids),.val (.int .i64 x.Q.E.List_),.sl x.Q.E.Ops.length (fl Zd x.Q.E.Ops)]
theorem Q0:∀ x,G.pures (Zy x)=true:=fun x=>by simp [eI,eB,eS,eL,eP,G.pures,G.pure,Yb,Kp,Zy,Ky,Xf,Xb,Xn,Q4,Zeo,Xp,Q3,X5,Yq,Xa,Yr,Xo]
theorem Zb7 {O O':Objs} {n:Nat} (xs:List Z7):G7 O O' n (fl Zy xs) (fl Zy xs):=Zeq (Yb Q0 xs)
theorem Zb5 {O O':Objs} {n:Nat} (xs:List Z7) (b b':List G):G7 O O' n (fl Zy xs++b) (fl Zy xs++b')=G7 O O' n b b':=Zdp b b' _ (Yb Q0 xs)
theorem Zbw (xs:List Z7):(fl Zy xs).length=xs.length * 29:=Qu (f:=Zy) (k:=29) (fun _=>rfl) xs
theorem Zb1 (xs:List Z7):(fl Zy xs).all G.one=true:=Ul (fun x=>by simp [eI,eB,eS,eL,eP,Zf3,G.one,Value.oneCell',Zy]) xs
theorem Zb9 {O O':Objs} {n:Nat} (x:Option Z7):wk O O' n (gP Zy x) (gP Zy x)=True:=Zox Q0 x
theorem Zbh {k:Nat} (x:Option Z7):(gP Zy x).under k=true:=Zdo Q0 k x
theorem Zbd {ρ:Nat→Nat} (xs:List Z7):G.rens ρ (fl Zy xs)=fl Zy xs:=Kc ρ _ (Yb Q0 xs)
theorem Zbb {ρ:Nat→Nat} (x:Option Z7):(gP Zy x).ren ρ=gP Zy x:=Zcq ρ _ (Kp Q0 x)
theorem Zb3 {k:Nat} (xs:List Z7):G.unders k (fl Zy xs)=true:=Xt _ _ (Yb Q0 xs)
theorem Zhs:∀ x,G.pures ((eI .i64) x)=true:=fun x=>by simp [eI,eB,eS,eL,eP,G.pures,G.pure,Yb,Kp,Ky,Xf,Xb,Xn,Q4,Zeo,Xp,Q3,X5,Q0,Yq,Xa,Yr,Xo]
theorem Znj {O O':Objs} {n:Nat} (xs:List Int):G7 O O' n (fl (eI .i64) xs) (fl (eI .i64) xs):=Zeq (Yb Zhs xs)
theorem Znh {O O':Objs} {n:Nat} (xs:List Int) (b b':List G):G7 O O' n (fl (eI .i64) xs++b) (fl (eI .i64) xs++b')=G7 O O' n b b':=Zdp b b' _ (Yb Zhs xs)
theorem Zmn (xs:List Int):(fl (eI .i64) xs).length=xs.length * 1:=Qu (f:=(eI .i64)) (k:=1) (fun _=>rfl) xs
theorem Zmy (xs:List Int):(fl (eI .i64) xs).all G.one=true:=Ul (fun x=>by simp [eI,eB,eS,eL,eP,Zf3,G.one,Value.oneCell']) xs
theorem Znl {O O':Objs} {n:Nat} (x:Option Int):wk O O' n (gP (eI .i64) x) (gP (eI .i64) x)=True:=Zox Zhs x
theorem Zk1 {k:Nat} (x:Option Int):(gP (eI .i64) x).under k=true:=Zdo Zhs k x
theorem Zkx {ρ:Nat→Nat} (xs:List Int):G.rens ρ (fl (eI .i64) xs)=fl (eI .i64) xs:=Kc ρ _ (Yb Zhs xs)
theorem Zkv {ρ:Nat→Nat} (x:Option Int):(gP (eI .i64) x).ren ρ=gP (eI .i64) x:=Zcq ρ _ (Kp Zhs x)
theorem Zne {k:Nat} (xs:List Int):G.unders k (fl (eI .i64) xs)=true:=Xt _ _ (Yb Zhs xs)
def K0 (x:Z7):List G:=[.val (.int .i64 x.Of),.val (.int .i64 x.P.Kind),.val (.int .i64 x.P.N),.sl x.P.L.length (fl Za x.P.L),.val (.int .i64 x.P.E.Kind),.val (.int .i64 x.P.E.Old.Kind),.sl x.P.E.Old.Words.length (fl (eI .u64) x.P.E.Old.Words),.sl x.P.E.Old.Kids.length (fl Za x.P.E.Old.Kids),.val (.int .i64 x.P.E.New.Kind),.sl x.P.E.New.Words.length (fl (eI .u64) x.P.E.New.Words),.sl x.P.E.New.Kids.length (fl Za x.P.E.New.Kids),.sl x.P.E.Words.length (fl Zi x.P.E.Words),.sl x.P.E.Kids.length (fl Zh x.P.E.Kids),.val (.int .i64 x.P.E.List_),.sl x.P.E.Ops.length (fl Zd x.P.E.Ops),.val (.int .i64 x.Q.Kind),.val (.int .i64 x.Q.N),.sl x.Q.L.length (fl Za x.Q.L),.val (.int .i64 x.Q.E.Kind),.val (.int .i64 x.Q.E.Old.Kind),.sl x.Q.E.Old.Words.length (fl (eI .u64) x.Q.E.Old.Words),.sl x.Q.E.Old.Kids.length (fl Za x.Q.E.Old.Kids),.val (.int .i64 x.Q.E.New.Kind),.sl x.Q.E.New.Words.length (fl (eI .u64) x.Q.E.New.Words),.sl x.Q.E.New.Kids.length (fl Za x.Q.E.New.Kids),.sl x.Q.E.Words.length (fl Zi x.Q.E.Words),.sl x.Q.E.Kids.length (fl Zh x.Q.E.Kids),.val (.int .i64 x.Q.E.List_),.sl x.Q.E.Ops.length (fl Zd x.Q.E.Ops)]
def Z6 (x:Zg):List G:=[.val (.int .i64 x.Kind),.val (.int .i64 x.N),.sl x.L.length (fl Za x.L),.val (.int .i64 x.E.Kind),.val (.int .i64 x.E.Old.Kind),.sl x.E.Old.Words.length (fl (eI .u64) x.E.Old.Words),.sl x.E.Old.Kids.length (fl Za x.E.Old.Kids),.val (.int .i64 x.E.New.Kind),.sl x.E.New.Words.length (fl (eI .u64) x.E.New.Words),.sl x.E.New.Kids.length (fl Za x.E.New.Kids),.sl x.E.Words.length (fl Zi x.E.Words),.sl x.E.Kids.length (fl Zh x.E.Kids),.val (.int .i64 x.E.List_),.sl x.E.Ops.length (fl Zd x.E.Ops)]
def K1 (x:Zj):List G:=[.val (.int .i64 x.At),.val (.int .i64 x.E.Kind),.val (.int .i64 x.E.Old.Kind),.sl x.E.Old.Words.length (fl (eI .u64) x.E.Old.Words),.sl x.E.Old.Kids.length (fl Za x.E.Old.Kids),.val (.int .i64 x.E.New.Kind),.sl x.E.New.Words.length (fl (eI .u64) x.E.New.Words),.sl x.E.New.Kids.length (fl Za x.E.New.Kids),.sl x.E.Words.length (fl Zi x.E.Words),.sl x.E.Kids.length (fl Zh x.E.Kids),.val (.int .i64 x.E.List_),.sl x.E.Ops.length (fl Zd x.E.Ops)]
def Ze (x:Zb):List G:=[.val (.int .i64 x.Kind),.val (.int .i64 x.Old.Kind),.sl x.Old.Words.length (fl (eI .u64) x.Old.Words),.sl x.Old.Kids.length (fl Za x.Old.Kids),.val (.int .i64 x.New.Kind),.sl x.New.Words.length (fl (eI .u64) x.New.Words),.sl x.New.Kids.length (fl Za x.New.Kids),.sl x.Words.length (fl Zi x.Words),.sl x.Kids.length (fl Zh x.Kids),.val (.int .i64 x.List_),.sl x.Ops.length (fl Zd x.Ops)]
def Zv (x:Zc):List G:=[.val (.int .i64 x.Kind),.sl x.Words.length (fl (eI .u64) x.Words),.sl x.Kids.length (fl Za x.Kids)]
def Zcf (x:Zu):List G:=[.val (.int .i64 x.At),.val (.int .u8 x.Mask),.val (.int .u64 x.Old),.val (.int .u64 x.New)]
abbrev vI (x:Int):G := .val (.int .i64 x)
abbrev vB (x:Bool):G := .val (.bool x)
abbrev nV:G := .val (.slice none 0 0)
abbrev sL {α:Type} (e:α→List G) (x:List α):G := .sl x.length (fl e x)
abbrev oR {α:Type} (t s:Nat) (e:α→List G) (x:List α):GObj:=⟨true,t,s,x.length,fl e x⟩
structure Hid (p:Prop):Prop where
 get:p
structure Ar {α:Type} (a:α):Prop where
def Ar.v {α:Type} {a:α} (_:Ar a):α:=a
theorem zQ {A B:Prop} (l0:List Nat) (b:B) (e:Ar l0→Hid B→A:=by intro x0 bZ;refine Zl0 x0.v (Yn Zt [] ?_);simp only [push_cast,seval,Zf,Ar.v,hN0,hN];exact bZ.get):A:=e ⟨⟩ ⟨b⟩
theorem zQD {A B:Prop} (l0:List Nat) (l1:List (Option Bool)) (b:B) (e:Ar l0→Ar l1→Hid B→A:=by intro x0 x1 bZ;refine Zl0 x0.v (Yn Zt x1.v ?_);simp only [push_cast,seval,Zf,Ar.v,hN0,hN];(repeat (with_reducible refine And.intro (by first | (intro h0;simp only [h0,and_self];done) | (intro h0;simp only [h0,Bool.not_false,Bool.not_true,Bool.true_and,Bool.and_true,true_and,and_true,and_self,imp_self,implies_true,bne_iff_ne,ne_eq,beq_iff_eq];done) | (intros;simp_all;done) | exact True.intro) ?_));exact bZ.get):A:=e ⟨⟩ ⟨⟩ ⟨b⟩
theorem zW {A B:Prop} (b:B) (e:Hid B→A:=by intro bZ;refine Ygv ?_;(try simp only [Yg,Z3]);exact bZ.get):A:=e ⟨b⟩
theorem Q5 {A B:Prop} (l0:List Nat) (l1:List Bool) (b:B) (e:Ar l0→Ar l1→Hid B→A:=by intro x0 x1 bZ;refine Ya3 ?_;(try simp only [Yg,Z3]);refine Zue x0.v x1.v ?_;simp only [push_cast,seval,Ar.v];exact bZ.get):A:=e ⟨⟩ ⟨⟩ ⟨b⟩
theorem zQd {A B:Prop} (l0:List Nat) (l1:List Nat) (l2:List Bool) (b:B) (e:Ar l0→Ar l1→Ar l2→Hid B→A:=by intro x0 x1 x2 bZ;refine Zl0 x0.v (Yn Zt [] ?_);simp only [push_cast,seval,Zf,Ar.v,hN0,hN];refine Zue x1.v x2.v ?_;simp only [push_cast,seval,Ar.v];exact bZ.get):A:=e ⟨⟩ ⟨⟩ ⟨⟩ ⟨b⟩
theorem Zdr {A B:Prop} (l0:List (Option Bool)) {P1:Prop} (p1:P1) {P2:Prop} (p2:P2) {P3:Prop} (p3:P3) (b:B) (e:Ar l0→P1→P2→P3→Hid B→A:=by intro x0 x1 x2 x3 bZ;refine Yn Zt x0.v ?_;simp only [push_cast,Nat.reduceAdd,Nat.reduceSub,Nat.reduceMul,Nat.reduceLeDiff,Nat.reduceLT,Nat.reduceEqDiff,↓reduceIte,reduceCtorEq,Int.reduceBEq,Int.reduceBNe,Nat.reduceBEq,Int.reduceLE,Int.reduceLT,Int.reduceEq,Int.reduceNe,Int.reduceNeg,Nat.reduceDiv,Nat.reduceMod,Nat.reducePow,Zf,Ar.v,x1,x2,x3,hN0,hN];exact bZ.get):A:=e ⟨⟩ p1 p2 p3 ⟨b⟩
theorem zF3 {A B:Prop} {P0:Prop} (p0:P0) {P1:Prop} (p1:P1) {P2:Prop} (p2:P2) (b:B) (e:P0→P1→P2→Hid B→A:=by intro x0 x1 x2 bZ;simp only [push_cast,Nat.reduceAdd,Nat.reduceSub,Nat.reduceMul,Nat.reduceLeDiff,Nat.reduceLT,Nat.reduceEqDiff,↓reduceIte,reduceCtorEq,Int.reduceBEq,Int.reduceBNe,Nat.reduceBEq,Int.reduceLE,Int.reduceLT,Int.reduceEq,Int.reduceNe,Int.reduceNeg,Nat.reduceDiv,Nat.reduceMod,Nat.reducePow,Zf,x0,x1,x2,hN0,hN];exact bZ.get):A:=e p0 p1 p2 ⟨b⟩
theorem zD {A B:Prop} (l0:List Nat) (l1:List Bool) (b:B) (e:Ar l0→Ar l1→Hid B→A:=by intro x0 x1 bZ;refine Zue x0.v x1.v ?_;simp only [push_cast,seval,Ar.v];exact bZ.get):A:=e ⟨⟩ ⟨⟩ ⟨b⟩
theorem zR {A B:Prop} (b:B) (e:Hid B→A:=by intro bZ;refine Yn Zt [] ?_;simp only [push_cast,seval,Zf,hN0,hN];exact bZ.get):A:=e ⟨b⟩
theorem Vu {A:Prop} {P0:Prop} (p0:P0) (e:P0→A:=by intro x0;have h9:=Option.some.inj x0;subst h9;refine And.intro rfl (Fit2.of (Zz hU rfl rfl ?_) (by omega));simp only [push_cast,seval,Zf,hN0,hN]):A:=e p0
theorem zEx {A:Prop} {P0:Prop} (p0:P0) (e:P0→A:=by intro x0;refine Ya1 ?_;(try simp only [Yg,Z3,↓reduceIte,Nat.reduceEqDiff]);have h9:=Option.some.inj x0;subst h9;refine And.intro (fun h=>by cases h) (And.intro rfl (Fit2.of (Zz hU rfl rfl ?_) (by omega)));simp only [push_cast,seval,Zf,hN0,hN]):A:=e p0
theorem zCd {A B:Prop} {P0:Prop} (p0:P0) (l1:List Nat) (l2:List Bool) (b:B) (e:P0→Ar l1→Ar l2→Hid B→A:=by intro x0 x1 x2 bZ;refine Yn Zt [] ?_;simp only [push_cast,seval,Zf,hN0,hN];refine x0.then ?_;simp only [push_cast,seval,Zf,hN0,hN];refine Zue x1.v x2.v ?_;simp only [push_cast,seval,Ar.v];exact bZ.get):A:=e p0 ⟨⟩ ⟨⟩ ⟨b⟩
theorem zC {A B:Prop} {P0:Prop} (p0:P0) (b:B) (e:P0→Hid B→A:=by intro x0 bZ;refine Yn Zt [] ?_;simp only [push_cast,seval,Zf,hN0,hN];refine x0.then ?_;simp only [push_cast,seval,Zf,hN0,hN];exact bZ.get):A:=e p0 ⟨b⟩
theorem zK {A B:Prop} (b:B) (e:Hid B→A:=by intro bZ;refine Ya3 ?_;(try simp only [Yg,Z3]);exact bZ.get):A:=e ⟨b⟩
theorem Zi2 {A B:Prop} (l0:List (Option Bool)) {P1:Prop} (p1:P1) {P2:Prop} (p2:P2) {P3:Prop} (p3:P3) {P4:Prop} (p4:P4) (b:B) (e:Ar l0→P1→P2→P3→P4→Hid B→A:=by intro x0 x1 x2 x3 x4 bZ;refine Yn Zt x0.v ?_;simp only [push_cast,Nat.reduceAdd,Nat.reduceSub,Nat.reduceMul,Nat.reduceLeDiff,Nat.reduceLT,Nat.reduceEqDiff,↓reduceIte,reduceCtorEq,Int.reduceBEq,Int.reduceBNe,Nat.reduceBEq,Int.reduceLE,Int.reduceLT,Int.reduceEq,Int.reduceNe,Int.reduceNeg,Nat.reduceDiv,Nat.reduceMod,Nat.reducePow,Zf,Ar.v,x1,x2,x3,x4,hN0,hN];exact bZ.get):A:=e ⟨⟩ p1 p2 p3 p4 ⟨b⟩
theorem zF4 {A B:Prop} {P0:Prop} (p0:P0) {P1:Prop} (p1:P1) {P2:Prop} (p2:P2) {P3:Prop} (p3:P3) (b:B) (e:P0→P1→P2→P3→Hid B→A:=by intro x0 x1 x2 x3 bZ;simp only [push_cast,Nat.reduceAdd,Nat.reduceSub,Nat.reduceMul,Nat.reduceLeDiff,Nat.reduceLT,Nat.reduceEqDiff,↓reduceIte,reduceCtorEq,Int.reduceBEq,Int.reduceBNe,Nat.reduceBEq,Int.reduceLE,Int.reduceLT,Int.reduceEq,Int.reduceNe,Int.reduceNeg,Nat.reduceDiv,Nat.reduceMod,Nat.reducePow,Zf,x0,x1,x2,x3,hN0,hN];exact bZ.get):A:=e p0 p1 p2 p3 ⟨b⟩
theorem zDs {A B:Prop} (l0:List Nat) (l1:List Bool) (b:B) (e:Ar l0→Ar l1→Hid B→A:=by intro x0 x1 bZ;refine Zue x0.v x1.v ?_;simp only [push_cast,seval,Ar.v];refine Zl ?_;exact bZ.get):A:=e ⟨⟩ ⟨⟩ ⟨b⟩
theorem zG {A B:Prop} (b:B) (e:Hid B→A:=by intro bZ;(repeat (with_reducible refine And.intro (by first | (intro h0;simp only [h0,and_self];done) | (intro h0;simp only [h0,Bool.not_false,Bool.not_true,Bool.true_and,Bool.and_true,true_and,and_true,and_self,imp_self,implies_true,bne_iff_ne,ne_eq,beq_iff_eq];done) | (intros;simp_all;done) | exact True.intro) ?_));exact bZ.get):A:=e ⟨b⟩
theorem Z6f {A B:Prop} (l0:List (Option Bool)) {P1:Prop} (p1:P1) {P2:Prop} (p2:P2) {P3:Prop} (p3:P3) {P4:Prop} (p4:P4) {P5:Prop} (p5:P5) {P6:Prop} (p6:P6) {P7:Prop} (p7:P7) (b:B) (e:Ar l0→P1→P2→P3→P4→P5→P6→P7→Hid B→A:=by intro x0 x1 x2 x3 x4 x5 x6 x7 bZ;refine Yn Zt x0.v ?_;simp only [push_cast,Nat.reduceAdd,Nat.reduceSub,Nat.reduceMul,Nat.reduceLeDiff,Nat.reduceLT,Nat.reduceEqDiff,↓reduceIte,reduceCtorEq,Int.reduceBEq,Int.reduceBNe,Nat.reduceBEq,Int.reduceLE,Int.reduceLT,Int.reduceEq,Int.reduceNe,Int.reduceNeg,Nat.reduceDiv,Nat.reduceMod,Nat.reducePow,Zf,Ar.v,x1,x2,x3,x4,x5,x6,x7,hN0,hN];exact bZ.get):A:=e ⟨⟩ p1 p2 p3 p4 p5 p6 p7 ⟨b⟩
theorem zF7 {A B:Prop} {P0:Prop} (p0:P0) {P1:Prop} (p1:P1) {P2:Prop} (p2:P2) {P3:Prop} (p3:P3) {P4:Prop} (p4:P4) {P5:Prop} (p5:P5) {P6:Prop} (p6:P6) (b:B) (e:P0→P1→P2→P3→P4→P5→P6→Hid B→A:=by intro x0 x1 x2 x3 x4 x5 x6 bZ;simp only [push_cast,Nat.reduceAdd,Nat.reduceSub,Nat.reduceMul,Nat.reduceLeDiff,Nat.reduceLT,Nat.reduceEqDiff,↓reduceIte,reduceCtorEq,Int.reduceBEq,Int.reduceBNe,Nat.reduceBEq,Int.reduceLE,Int.reduceLT,Int.reduceEq,Int.reduceNe,Int.reduceNeg,Nat.reduceDiv,Nat.reduceMod,Nat.reducePow,Zf,x0,x1,x2,x3,x4,x5,x6,hN0,hN];exact bZ.get):A:=e p0 p1 p2 p3 p4 p5 p6 ⟨b⟩
theorem Zvt {A:Prop} {P0:Prop} (p0:P0) {P1:Prop} (p1:P1) {P2:Prop} (p2:P2) {P3:Prop} (p3:P3) {P4:Prop} (p4:P4) (e:P0→P1→P2→P3→P4→A:=by intro x0 x1 x2 x3 x4;have h9:=Option.some.inj x0;subst h9;refine And.intro rfl (Fit2.of (Zz hU rfl rfl ?_) (by omega));simp only [push_cast,Nat.reduceAdd,Nat.reduceSub,Nat.reduceMul,Nat.reduceLeDiff,Nat.reduceLT,Nat.reduceEqDiff,↓reduceIte,reduceCtorEq,Int.reduceBEq,Int.reduceBNe,Nat.reduceBEq,Int.reduceLE,Int.reduceLT,Int.reduceEq,Int.reduceNe,Int.reduceNeg,Nat.reduceDiv,Nat.reduceMod,Nat.reducePow,Zf,x1,x2,x3,x4,hN0,hN]):A:=e p0 p1 p2 p3 p4
theorem zRd {A B:Prop} (l0:List Nat) (l1:List Bool) (b:B) (e:Ar l0→Ar l1→Hid B→A:=by intro x0 x1 bZ;refine Yn Zt [] ?_;simp only [push_cast,seval,Zf,hN0,hN];refine Zue x0.v x1.v ?_;simp only [push_cast,seval,Ar.v];exact bZ.get):A:=e ⟨⟩ ⟨⟩ ⟨b⟩
theorem zEy {A:Prop} {P0:Prop} (p0:P0) (e:P0→A:=by intro x0;have h9:=Option.some.inj x0;subst h9;refine And.intro (fun h=>by cases h) (And.intro rfl (Fit2.of (Zz hU rfl rfl ?_) (by omega)));simp only [push_cast,seval,Zf,hN0,hN]):A:=e p0
theorem zX1 {A B:Prop} {P0:Prop} (p0:P0) (b:B) (e:P0→Hid B→A:=by intro x0 bZ;simp only [push_cast,seval,Zf,x0,hN0,hN];exact bZ.get):A:=e p0 ⟨b⟩
theorem Kq {A:Prop} {P0:Prop} (p0:P0) {P1:Prop} (p1:P1) (e:P0→P1→A:=by intro x0 x1;have h9:=Option.some.inj x0;subst h9;refine And.intro rfl (Fit2.of (Zz hU rfl rfl ?_) (by omega));simp only [push_cast,seval,Zf,x1,hN0,hN]):A:=e p0 p1
theorem zX3 {A B:Prop} {P0:Prop} (p0:P0) {P1:Prop} (p1:P1) {P2:Prop} (p2:P2) (b:B) (e:P0→P1→P2→Hid B→A:=by intro x0 x1 x2 bZ;simp only [push_cast,seval,Zf,x0,x1,x2,hN0,hN];exact bZ.get):A:=e p0 p1 p2 ⟨b⟩
theorem Zdq {A:Prop} {P0:Prop} (p0:P0) {P1:Prop} (p1:P1) {P2:Prop} (p2:P2) {P3:Prop} (p3:P3) (e:P0→P1→P2→P3→A:=by intro x0 x1 x2 x3;have h9:=Option.some.inj x0;subst h9;refine And.intro rfl (Fit2.of (Zz hU rfl rfl ?_) (by omega));simp only [push_cast,seval,Zf,x1,x2,x3,hN0,hN]):A:=e p0 p1 p2 p3
theorem zF8 {A B:Prop} {P0:Prop} (p0:P0) {P1:Prop} (p1:P1) {P2:Prop} (p2:P2) {P3:Prop} (p3:P3) {P4:Prop} (p4:P4) {P5:Prop} (p5:P5) {P6:Prop} (p6:P6) {P7:Prop} (p7:P7) (b:B) (e:P0→P1→P2→P3→P4→P5→P6→P7→Hid B→A:=by intro x0 x1 x2 x3 x4 x5 x6 x7 bZ;simp only [push_cast,Nat.reduceAdd,Nat.reduceSub,Nat.reduceMul,Nat.reduceLeDiff,Nat.reduceLT,Nat.reduceEqDiff,↓reduceIte,reduceCtorEq,Int.reduceBEq,Int.reduceBNe,Nat.reduceBEq,Int.reduceLE,Int.reduceLT,Int.reduceEq,Int.reduceNe,Int.reduceNeg,Nat.reduceDiv,Nat.reduceMod,Nat.reducePow,Zf,x0,x1,x2,x3,x4,x5,x6,x7,hN0,hN];exact bZ.get):A:=e p0 p1 p2 p3 p4 p5 p6 p7 ⟨b⟩
theorem Ydj {A:Prop} {P0:Prop} (p0:P0) {P1:Prop} (p1:P1) {P2:Prop} (p2:P2) {P3:Prop} (p3:P3) {P4:Prop} (p4:P4) {P5:Prop} (p5:P5) {P6:Prop} (p6:P6) {P7:Prop} (p7:P7) {P8:Prop} (p8:P8) (e:P0→P1→P2→P3→P4→P5→P6→P7→P8→A:=by intro x0 x1 x2 x3 x4 x5 x6 x7 x8;have h9:=Option.some.inj x0;subst h9;refine And.intro rfl (Fit2.of (Zz hU rfl rfl ?_) (by omega));simp only [push_cast,Nat.reduceAdd,Nat.reduceSub,Nat.reduceMul,Nat.reduceLeDiff,Nat.reduceLT,Nat.reduceEqDiff,↓reduceIte,reduceCtorEq,Int.reduceBEq,Int.reduceBNe,Nat.reduceBEq,Int.reduceLE,Int.reduceLT,Int.reduceEq,Int.reduceNe,Int.reduceNeg,Nat.reduceDiv,Nat.reduceMod,Nat.reducePow,Zf,x1,x2,x3,x4,x5,x6,x7,x8,hN0,hN]):A:=e p0 p1 p2 p3 p4 p5 p6 p7 p8
theorem zX5 {A B:Prop} {P0:Prop} (p0:P0) {P1:Prop} (p1:P1) {P2:Prop} (p2:P2) {P3:Prop} (p3:P3) {P4:Prop} (p4:P4) (b:B) (e:P0→P1→P2→P3→P4→Hid B→A:=by intro x0 x1 x2 x3 x4 bZ;simp only [push_cast,seval,Zf,x0,x1,x2,x3,x4,hN0,hN];exact bZ.get):A:=e p0 p1 p2 p3 p4 ⟨b⟩
theorem Z1r {A:Prop} {P0:Prop} (p0:P0) {P1:Prop} (p1:P1) {P2:Prop} (p2:P2) {P3:Prop} (p3:P3) {P4:Prop} (p4:P4) {P5:Prop} (p5:P5) (e:P0→P1→P2→P3→P4→P5→A:=by intro x0 x1 x2 x3 x4 x5;have h9:=Option.some.inj x0;subst h9;refine And.intro rfl (Fit2.of (Zz hU rfl rfl ?_) (by omega));simp only [push_cast,seval,Zf,x1,x2,x3,x4,x5,hN0,hN]):A:=e p0 p1 p2 p3 p4 p5
theorem zX4 {A B:Prop} {P0:Prop} (p0:P0) {P1:Prop} (p1:P1) {P2:Prop} (p2:P2) {P3:Prop} (p3:P3) (b:B) (e:P0→P1→P2→P3→Hid B→A:=by intro x0 x1 x2 x3 bZ;simp only [push_cast,seval,Zf,x0,x1,x2,x3,hN0,hN];exact bZ.get):A:=e p0 p1 p2 p3 ⟨b⟩
theorem Zuc {A:Prop} {P0:Prop} (p0:P0) {P1:Prop} (p1:P1) {P2:Prop} (p2:P2) {P3:Prop} (p3:P3) {P4:Prop} (p4:P4) (e:P0→P1→P2→P3→P4→A:=by intro x0 x1 x2 x3 x4;have h9:=Option.some.inj x0;subst h9;refine And.intro rfl (Fit2.of (Zz hU rfl rfl ?_) (by omega));simp only [push_cast,seval,Zf,x1,x2,x3,x4,hN0,hN]):A:=e p0 p1 p2 p3 p4
theorem Z1q {A:Prop} {P0:Prop} (p0:P0) {P1:Prop} (p1:P1) {P2:Prop} (p2:P2) {P3:Prop} (p3:P3) {P4:Prop} (p4:P4) {P5:Prop} (p5:P5) {P6:Prop} (p6:P6) {P7:Prop} (p7:P7) (e:P0→P1→P2→P3→P4→P5→P6→P7→A:=by intro x0 x1 x2 x3 x4 x5 x6 x7;have h9:=Option.some.inj x0;subst h9;refine And.intro rfl (Fit2.of (Zz hU rfl rfl ?_) (by omega));simp only [push_cast,Nat.reduceAdd,Nat.reduceSub,Nat.reduceMul,Nat.reduceLeDiff,Nat.reduceLT,Nat.reduceEqDiff,↓reduceIte,reduceCtorEq,Int.reduceBEq,Int.reduceBNe,Nat.reduceBEq,Int.reduceLE,Int.reduceLT,Int.reduceEq,Int.reduceNe,Int.reduceNeg,Nat.reduceDiv,Nat.reduceMod,Nat.reducePow,Zf,x1,x2,x3,x4,x5,x6,x7,hN0,hN]):A:=e p0 p1 p2 p3 p4 p5 p6 p7
theorem Ykh {A B:Prop} (l0:List Nat) {P1:Prop} (p1:P1) (b:B) (e:Ar l0→P1→Hid B→A:=by intro x0 x1 bZ;refine Zl0 x0.v (Yn Zt [] ?_);simp only [push_cast,seval,Zf,Ar.v,x1,hN0,hN];exact bZ.get):A:=e ⟨⟩ p1 ⟨b⟩
theorem U1 {A B:Prop} (l0:List (Option Bool)) {P1:Prop} (p1:P1) {P2:Prop} (p2:P2) {P3:Prop} (p3:P3) (b:B) (e:Ar l0→P1→P2→P3→Hid B→A:=by intro x0 x1 x2 x3 bZ;refine Yn Zt x0.v ?_;simp only [push_cast,seval,Zf,Ar.v,x1,x2,x3,hN0,hN];exact bZ.get):A:=e ⟨⟩ p1 p2 p3 ⟨b⟩
theorem Ja {A B:Prop} (l0:List (Option Bool)) {P1:Prop} (p1:P1) {P2:Prop} (p2:P2) (b:B) (e:Ar l0→P1→P2→Hid B→A:=by intro x0 x1 x2 bZ;refine Yn Zt x0.v ?_;simp only [push_cast,seval,Zf,Ar.v,x1,x2,hN0,hN];exact bZ.get):A:=e ⟨⟩ p1 p2 ⟨b⟩
theorem Zud {A B:Prop} (l0:List (Option Bool)) {P1:Prop} (p1:P1) {P2:Prop} (p2:P2) {P3:Prop} (p3:P3) {P4:Prop} (p4:P4) (b:B) (e:Ar l0→P1→P2→P3→P4→Hid B→A:=by intro x0 x1 x2 x3 x4 bZ;refine Yn Zt x0.v ?_;simp only [push_cast,seval,Zf,Ar.v,x1,x2,x3,x4,hN0,hN];exact bZ.get):A:=e ⟨⟩ p1 p2 p3 p4 ⟨b⟩
theorem Vt {A:Prop} {P0:Prop} (p0:P0) {P1:Prop} (p1:P1) (e:P0→P1→A:=by intro x0 x1;simp only [push_cast,seval,Zf,x0,x1,hN0,hN]):A:=e p0 p1
theorem zX2 {A B:Prop} {P0:Prop} (p0:P0) {P1:Prop} (p1:P1) (b:B) (e:P0→P1→Hid B→A:=by intro x0 x1 bZ;simp only [push_cast,seval,Zf,x0,x1,hN0,hN];exact bZ.get):A:=e p0 p1 ⟨b⟩
theorem Zbp {A:Prop} {P0:Prop} (p0:P0) {P1:Prop} (p1:P1) {P2:Prop} (p2:P2) (e:P0→P1→P2→A:=by intro x0 x1 x2;have h9:=Option.some.inj x0;subst h9;refine And.intro rfl (Fit2.of (Zz hU rfl rfl ?_) (by omega));simp only [push_cast,seval,Zf,x1,x2,hN0,hN]):A:=e p0 p1 p2
theorem K3 {A B:Prop} (l0:List (Option Bool)) {P1:Prop} (p1:P1) (b:B) (e:Ar l0→P1→Hid B→A:=by intro x0 x1 bZ;refine Yn Zt x0.v ?_;simp only [push_cast,seval,Zf,Ar.v,x1,hN0,hN];exact bZ.get):A:=e ⟨⟩ p1 ⟨b⟩
theorem Yki {A:Prop} {P0:Prop} (p0:P0) {P1:Prop} (p1:P1) {P2:Prop} (p2:P2) {P3:Prop} (p3:P3) (e:P0→P1→P2→P3→A:=by intro x0 x1 x2 x3;simp only [push_cast,seval,Zf,x0,x1,x2,x3,hN0,hN]):A:=e p0 p1 p2 p3
theorem zSe {A:Prop} (e:A:=by simp only [push_cast,seval,Zf,hN0,hN]):A:=e
theorem Yi4 {A B:Prop} (l0:List Nat) {P1:Prop} (p1:P1) {P2:Prop} (p2:P2) {P3:Prop} (p3:P3) {P4:Prop} (p4:P4) (b:B) (e:Ar l0→P1→P2→P3→P4→Hid B→A:=by intro x0 x1 x2 x3 x4 bZ;refine Zl0 x0.v (Yn Zt [] ?_);simp only [push_cast,seval,Zf,Ar.v,x1,x2,x3,x4,hN0,hN];exact bZ.get):A:=e ⟨⟩ p1 p2 p3 p4 ⟨b⟩
theorem Z6e {A B:Prop} (l0:List (Option Bool)) {P1:Prop} (p1:P1) {P2:Prop} (p2:P2) {P3:Prop} (p3:P3) {P4:Prop} (p4:P4) {P5:Prop} (p5:P5) (b:B) (e:Ar l0→P1→P2→P3→P4→P5→Hid B→A:=by intro x0 x1 x2 x3 x4 x5 bZ;refine Yn Zt x0.v ?_;simp only [push_cast,Nat.reduceAdd,Nat.reduceSub,Nat.reduceMul,Nat.reduceLeDiff,Nat.reduceLT,Nat.reduceEqDiff,↓reduceIte,reduceCtorEq,Int.reduceBEq,Int.reduceBNe,Nat.reduceBEq,Int.reduceLE,Int.reduceLT,Int.reduceEq,Int.reduceNe,Int.reduceNeg,Nat.reduceDiv,Nat.reduceMod,Nat.reducePow,Zf,Ar.v,x1,x2,x3,x4,x5,hN0,hN];exact bZ.get):A:=e ⟨⟩ p1 p2 p3 p4 p5 ⟨b⟩
theorem Ydi {A:Prop} {P0:Prop} (p0:P0) {P1:Prop} (p1:P1) {P2:Prop} (p2:P2) {P3:Prop} (p3:P3) {P4:Prop} (p4:P4) {P5:Prop} (p5:P5) (e:P0→P1→P2→P3→P4→P5→A:=by intro x0 x1 x2 x3 x4 x5;have h9:=Option.some.inj x0;subst h9;refine And.intro rfl (Fit2.of (Zz hU rfl rfl ?_) (by omega));simp only [push_cast,Nat.reduceAdd,Nat.reduceSub,Nat.reduceMul,Nat.reduceLeDiff,Nat.reduceLT,Nat.reduceEqDiff,↓reduceIte,reduceCtorEq,Int.reduceBEq,Int.reduceBNe,Nat.reduceBEq,Int.reduceLE,Int.reduceLT,Int.reduceEq,Int.reduceNe,Int.reduceNeg,Nat.reduceDiv,Nat.reduceMod,Nat.reducePow,Zf,x1,x2,x3,x4,x5,hN0,hN]):A:=e p0 p1 p2 p3 p4 p5
theorem zS {A B:Prop} (b:B) (e:Hid B→A:=by intro bZ;simp only [push_cast,seval,Zf,hN0,hN];exact bZ.get):A:=e ⟨b⟩
theorem zTs {A B:Prop} {P0:Prop} (p0:P0) (b:B) (e:P0→Hid B→A:=by intro x0 bZ;refine x0.then ?_;simp only [push_cast,seval,Zf,hN0,hN];exact bZ.get):A:=e p0 ⟨b⟩
theorem Znn {A B:Prop} (l0:List Nat) {P1:Prop} (p1:P1) {P2:Prop} (p2:P2) (b:B) (e:Ar l0→P1→P2→Hid B→A:=by intro x0 x1 x2 bZ;refine Zl0 x0.v (Yn Zt [] ?_);simp only [push_cast,seval,Zf,Ar.v,x1,x2,hN0,hN];exact bZ.get):A:=e ⟨⟩ p1 p2 ⟨b⟩
theorem zF9 {A B:Prop} {P0:Prop} (p0:P0) {P1:Prop} (p1:P1) {P2:Prop} (p2:P2) {P3:Prop} (p3:P3) {P4:Prop} (p4:P4) {P5:Prop} (p5:P5) {P6:Prop} (p6:P6) {P7:Prop} (p7:P7) {P8:Prop} (p8:P8) (b:B) (e:P0→P1→P2→P3→P4→P5→P6→P7→P8→Hid B→A:=by intro x0 x1 x2 x3 x4 x5 x6 x7 x8 bZ;simp only [push_cast,Nat.reduceAdd,Nat.reduceSub,Nat.reduceMul,Nat.reduceLeDiff,Nat.reduceLT,Nat.reduceEqDiff,↓reduceIte,reduceCtorEq,Int.reduceBEq,Int.reduceBNe,Nat.reduceBEq,Int.reduceLE,Int.reduceLT,Int.reduceEq,Int.reduceNe,Int.reduceNeg,Nat.reduceDiv,Nat.reduceMod,Nat.reducePow,Zf,x0,x1,x2,x3,x4,x5,x6,x7,x8,hN0,hN];exact bZ.get):A:=e p0 p1 p2 p3 p4 p5 p6 p7 p8 ⟨b⟩
theorem zO {A B:Prop} (b:B) (e:Hid B→A:=by intro bZ;(repeat (with_reducible refine And.intro (by first | omega | exact Zld rfl | exact Zjb | exact Z93 rfl | exact Z4l rfl rfl | exact Zyo rfl | exact Z4k rfl) ?_));exact bZ.get):A:=e ⟨b⟩
theorem Z7j {A:Prop} {P0:Prop} (p0:P0) {P1:Prop} (p1:P1) {P2:Prop} (p2:P2) {P3:Prop} (p3:P3) {P4:Prop} (p4:P4) {P5:Prop} (p5:P5) {P6:Prop} (p6:P6) {P7:Prop} (p7:P7) {P8:Prop} (p8:P8) (e:P0→P1→P2→P3→P4→P5→P6→P7→P8→A:=by intro x0 x1 x2 x3 x4 x5 x6 x7 x8;simp only [push_cast,Nat.reduceAdd,Nat.reduceSub,Nat.reduceMul,Nat.reduceLeDiff,Nat.reduceLT,Nat.reduceEqDiff,↓reduceIte,reduceCtorEq,Int.reduceBEq,Int.reduceBNe,Nat.reduceBEq,Int.reduceLE,Int.reduceLT,Int.reduceEq,Int.reduceNe,Int.reduceNeg,Nat.reduceDiv,Nat.reduceMod,Nat.reducePow,Zf,x0,x1,x2,x3,x4,x5,x6,x7,x8,hN0,hN]):A:=e p0 p1 p2 p3 p4 p5 p6 p7 p8
theorem zXt {A B:Prop} (b:B) (e:Hid B→A:=by intro bZ;refine Ya1 ?_;(try simp only [Yg,Z3,↓reduceIte,Nat.reduceEqDiff]);exact bZ.get):A:=e ⟨b⟩
theorem Z0t {A:Prop} {P0:Prop} (p0:P0) {P1:Prop} (p1:P1) {P2:Prop} (p2:P2) (e:P0→P1→P2→A:=by intro x0 x1 x2;simp only [push_cast,seval,Zf,x0,x1,x2,hN0,hN]):A:=e p0 p1 p2
theorem zF5 {A B:Prop} {P0:Prop} (p0:P0) {P1:Prop} (p1:P1) {P2:Prop} (p2:P2) {P3:Prop} (p3:P3) {P4:Prop} (p4:P4) (b:B) (e:P0→P1→P2→P3→P4→Hid B→A:=by intro x0 x1 x2 x3 x4 bZ;simp only [push_cast,Nat.reduceAdd,Nat.reduceSub,Nat.reduceMul,Nat.reduceLeDiff,Nat.reduceLT,Nat.reduceEqDiff,↓reduceIte,reduceCtorEq,Int.reduceBEq,Int.reduceBNe,Nat.reduceBEq,Int.reduceLE,Int.reduceLT,Int.reduceEq,Int.reduceNe,Int.reduceNeg,Nat.reduceDiv,Nat.reduceMod,Nat.reducePow,Zf,x0,x1,x2,x3,x4,hN0,hN];exact bZ.get):A:=e p0 p1 p2 p3 p4 ⟨b⟩
theorem zF6 {A B:Prop} {P0:Prop} (p0:P0) {P1:Prop} (p1:P1) {P2:Prop} (p2:P2) {P3:Prop} (p3:P3) {P4:Prop} (p4:P4) {P5:Prop} (p5:P5) (b:B) (e:P0→P1→P2→P3→P4→P5→Hid B→A:=by intro x0 x1 x2 x3 x4 x5 bZ;simp only [push_cast,Nat.reduceAdd,Nat.reduceSub,Nat.reduceMul,Nat.reduceLeDiff,Nat.reduceLT,Nat.reduceEqDiff,↓reduceIte,reduceCtorEq,Int.reduceBEq,Int.reduceBNe,Nat.reduceBEq,Int.reduceLE,Int.reduceLT,Int.reduceEq,Int.reduceNe,Int.reduceNeg,Nat.reduceDiv,Nat.reduceMod,Nat.reducePow,Zf,x0,x1,x2,x3,x4,x5,hN0,hN];exact bZ.get):A:=e p0 p1 p2 p3 p4 p5 ⟨b⟩
theorem Ydk {A B:Prop} (l0:List (Option Bool)) {P1:Prop} (p1:P1) {P2:Prop} (p2:P2) {P3:Prop} (p3:P3) {P4:Prop} (p4:P4) {P5:Prop} (p5:P5) {P6:Prop} (p6:P6) (b:B) (e:Ar l0→P1→P2→P3→P4→P5→P6→Hid B→A:=by intro x0 x1 x2 x3 x4 x5 x6 bZ;refine Yn Zt x0.v ?_;simp only [push_cast,seval,Zf,Ar.v,x1,x2,x3,x4,x5,x6,hN0,hN];exact bZ.get):A:=e ⟨⟩ p1 p2 p3 p4 p5 p6 ⟨b⟩
theorem Yi6 {A:Prop} {P0:Prop} (p0:P0) {P1:Prop} (p1:P1) {P2:Prop} (p2:P2) {P3:Prop} (p3:P3) {P4:Prop} (p4:P4) {P5:Prop} (p5:P5) (e:P0→P1→P2→P3→P4→P5→A:=by intro x0 x1 x2 x3 x4 x5;simp only [push_cast,seval,Zf,x0,x1,x2,x3,x4,x5,hN0,hN]):A:=e p0 p1 p2 p3 p4 p5
theorem zX6 {A B:Prop} {P0:Prop} (p0:P0) {P1:Prop} (p1:P1) {P2:Prop} (p2:P2) {P3:Prop} (p3:P3) {P4:Prop} (p4:P4) {P5:Prop} (p5:P5) (b:B) (e:P0→P1→P2→P3→P4→P5→Hid B→A:=by intro x0 x1 x2 x3 x4 x5 bZ;simp only [push_cast,seval,Zf,x0,x1,x2,x3,x4,x5,hN0,hN];exact bZ.get):A:=e p0 p1 p2 p3 p4 p5 ⟨b⟩
theorem zEf {A:Prop} (e:A:=by refine And.intro rfl (Fit2.of (Zz hU rfl rfl ?_) (by omega));simp only [push_cast,seval,Zf,hN0,hN]):A:=e
theorem Yi5 {A B:Prop} (l0:List (Option Bool)) {P1:Prop} (p1:P1) {P2:Prop} (p2:P2) {P3:Prop} (p3:P3) {P4:Prop} (p4:P4) {P5:Prop} (p5:P5) {P6:Prop} (p6:P6) {P7:Prop} (p7:P7) (b:B) (e:Ar l0→P1→P2→P3→P4→P5→P6→P7→Hid B→A:=by intro x0 x1 x2 x3 x4 x5 x6 x7 bZ;refine Yn Zt x0.v ?_;simp only [push_cast,seval,Zf,Ar.v,x1,x2,x3,x4,x5,x6,x7,hN0,hN];exact bZ.get):A:=e ⟨⟩ p1 p2 p3 p4 p5 p6 p7 ⟨b⟩
theorem Z9z {A B:Prop} (l0:List (Option Bool)) {P1:Prop} (p1:P1) {P2:Prop} (p2:P2) {P3:Prop} (p3:P3) {P4:Prop} (p4:P4) {P5:Prop} (p5:P5) {P6:Prop} (p6:P6) (b:B) (e:Ar l0→P1→P2→P3→P4→P5→P6→Hid B→A:=by intro x0 x1 x2 x3 x4 x5 x6 bZ;refine Yn Zt x0.v ?_;simp only [push_cast,Nat.reduceAdd,Nat.reduceSub,Nat.reduceMul,Nat.reduceLeDiff,Nat.reduceLT,Nat.reduceEqDiff,↓reduceIte,reduceCtorEq,Int.reduceBEq,Int.reduceBNe,Nat.reduceBEq,Int.reduceLE,Int.reduceLT,Int.reduceEq,Int.reduceNe,Int.reduceNeg,Nat.reduceDiv,Nat.reduceMod,Nat.reducePow,Zf,Ar.v,x1,x2,x3,x4,x5,x6,hN0,hN];exact bZ.get):A:=e ⟨⟩ p1 p2 p3 p4 p5 p6 ⟨b⟩
theorem Ye9 {A:Prop} {P0:Prop} (p0:P0) {P1:Prop} (p1:P1) {P2:Prop} (p2:P2) {P3:Prop} (p3:P3) {P4:Prop} (p4:P4) {P5:Prop} (p5:P5) (e:P0→P1→P2→P3→P4→P5→A:=by intro x0 x1 x2 x3 x4 x5;simp only [push_cast,Nat.reduceAdd,Nat.reduceSub,Nat.reduceMul,Nat.reduceLeDiff,Nat.reduceLT,Nat.reduceEqDiff,↓reduceIte,reduceCtorEq,Int.reduceBEq,Int.reduceBNe,Nat.reduceBEq,Int.reduceLE,Int.reduceLT,Int.reduceEq,Int.reduceNe,Int.reduceNeg,Nat.reduceDiv,Nat.reduceMod,Nat.reducePow,Zf,x0,x1,x2,x3,x4,x5,hN0,hN]):A:=e p0 p1 p2 p3 p4 p5
theorem Yfz {A:Prop} {P0:Prop} (p0:P0) {P1:Prop} (p1:P1) {P2:Prop} (p2:P2) {P3:Prop} (p3:P3) {P4:Prop} (p4:P4) {P5:Prop} (p5:P5) {P6:Prop} (p6:P6) (e:P0→P1→P2→P3→P4→P5→P6→A:=by intro x0 x1 x2 x3 x4 x5 x6;have h9:=Option.some.inj x0;subst h9;refine And.intro rfl (Fit2.of (Zz hU rfl rfl ?_) (by omega));simp only [push_cast,Nat.reduceAdd,Nat.reduceSub,Nat.reduceMul,Nat.reduceLeDiff,Nat.reduceLT,Nat.reduceEqDiff,↓reduceIte,reduceCtorEq,Int.reduceBEq,Int.reduceBNe,Nat.reduceBEq,Int.reduceLE,Int.reduceLT,Int.reduceEq,Int.reduceNe,Int.reduceNeg,Nat.reduceDiv,Nat.reduceMod,Nat.reducePow,Zf,x1,x2,x3,x4,x5,x6,hN0,hN]):A:=e p0 p1 p2 p3 p4 p5 p6
theorem Ykg {A:Prop} {P0:Prop} (p0:P0) {P1:Prop} (p1:P1) {P2:Prop} (p2:P2) {P3:Prop} (p3:P3) {P4:Prop} (p4:P4) {P5:Prop} (p5:P5) {P6:Prop} (p6:P6) {P7:Prop} (p7:P7) (e:P0→P1→P2→P3→P4→P5→P6→P7→A:=by intro x0 x1 x2 x3 x4 x5 x6 x7;simp only [push_cast,Nat.reduceAdd,Nat.reduceSub,Nat.reduceMul,Nat.reduceLeDiff,Nat.reduceLT,Nat.reduceEqDiff,↓reduceIte,reduceCtorEq,Int.reduceBEq,Int.reduceBNe,Nat.reduceBEq,Int.reduceLE,Int.reduceLT,Int.reduceEq,Int.reduceNe,Int.reduceNeg,Nat.reduceDiv,Nat.reduceMod,Nat.reducePow,Zf,x0,x1,x2,x3,x4,x5,x6,x7,hN0,hN]):A:=e p0 p1 p2 p3 p4 p5 p6 p7
theorem Ykf {A B:Prop} {P0:Prop} (p0:P0) {P1:Prop} (p1:P1) {P2:Prop} (p2:P2) {P3:Prop} (p3:P3) {P4:Prop} (p4:P4) {P5:Prop} (p5:P5) {P6:Prop} (p6:P6) {P7:Prop} (p7:P7) {P8:Prop} (p8:P8) {P9:Prop} (p9:P9) (b:B) (e:P0→P1→P2→P3→P4→P5→P6→P7→P8→P9→Hid B→A:=by intro x0 x1 x2 x3 x4 x5 x6 x7 x8 x9 bZ;simp only [push_cast,Nat.reduceAdd,Nat.reduceSub,Nat.reduceMul,Nat.reduceLeDiff,Nat.reduceLT,Nat.reduceEqDiff,↓reduceIte,reduceCtorEq,Int.reduceBEq,Int.reduceBNe,Nat.reduceBEq,Int.reduceLE,Int.reduceLT,Int.reduceEq,Int.reduceNe,Int.reduceNeg,Nat.reduceDiv,Nat.reduceMod,Nat.reducePow,Zf,x0,x1,x2,x3,x4,x5,x6,x7,x8,x9,hN0,hN];exact bZ.get):A:=e p0 p1 p2 p3 p4 p5 p6 p7 p8 p9 ⟨b⟩
theorem Yi2 {A:Prop} {P0:Prop} (p0:P0) {P1:Prop} (p1:P1) {P2:Prop} (p2:P2) {P3:Prop} (p3:P3) {P4:Prop} (p4:P4) {P5:Prop} (p5:P5) {P6:Prop} (p6:P6) {P7:Prop} (p7:P7) {P8:Prop} (p8:P8) {P9:Prop} (p9:P9) (e:P0→P1→P2→P3→P4→P5→P6→P7→P8→P9→A:=by intro x0 x1 x2 x3 x4 x5 x6 x7 x8 x9;simp only [push_cast,Nat.reduceAdd,Nat.reduceSub,Nat.reduceMul,Nat.reduceLeDiff,Nat.reduceLT,Nat.reduceEqDiff,↓reduceIte,reduceCtorEq,Int.reduceBEq,Int.reduceBNe,Nat.reduceBEq,Int.reduceLE,Int.reduceLT,Int.reduceEq,Int.reduceNe,Int.reduceNeg,Nat.reduceDiv,Nat.reduceMod,Nat.reducePow,Zf,x0,x1,x2,x3,x4,x5,x6,x7,x8,x9,hN0,hN]):A:=e p0 p1 p2 p3 p4 p5 p6 p7 p8 p9
theorem Yi1 {A B:Prop} {P0:Prop} (p0:P0) {P1:Prop} (p1:P1) {P2:Prop} (p2:P2) {P3:Prop} (p3:P3) {P4:Prop} (p4:P4) {P5:Prop} (p5:P5) {P6:Prop} (p6:P6) {P7:Prop} (p7:P7) {P8:Prop} (p8:P8) {P9:Prop} (p9:P9) {P10:Prop} (p10:P10) (b:B) (e:P0→P1→P2→P3→P4→P5→P6→P7→P8→P9→P10→Hid B→A:=by intro x0 x1 x2 x3 x4 x5 x6 x7 x8 x9 x10 bZ;simp only [push_cast,Nat.reduceAdd,Nat.reduceSub,Nat.reduceMul,Nat.reduceLeDiff,Nat.reduceLT,Nat.reduceEqDiff,↓reduceIte,reduceCtorEq,Int.reduceBEq,Int.reduceBNe,Nat.reduceBEq,Int.reduceLE,Int.reduceLT,Int.reduceEq,Int.reduceNe,Int.reduceNeg,Nat.reduceDiv,Nat.reduceMod,Nat.reducePow,Zf,x0,x1,x2,x3,x4,x5,x6,x7,x8,x9,x10,hN0,hN];exact bZ.get):A:=e p0 p1 p2 p3 p4 p5 p6 p7 p8 p9 p10 ⟨b⟩
theorem Yi3 {A:Prop} {P0:Prop} (p0:P0) {P1:Prop} (p1:P1) {P2:Prop} (p2:P2) {P3:Prop} (p3:P3) {P4:Prop} (p4:P4) {P5:Prop} (p5:P5) {P6:Prop} (p6:P6) {P7:Prop} (p7:P7) {P8:Prop} (p8:P8) {P9:Prop} (p9:P9) {P10:Prop} (p10:P10) (e:P0→P1→P2→P3→P4→P5→P6→P7→P8→P9→P10→A:=by intro x0 x1 x2 x3 x4 x5 x6 x7 x8 x9 x10;simp only [push_cast,Nat.reduceAdd,Nat.reduceSub,Nat.reduceMul,Nat.reduceLeDiff,Nat.reduceLT,Nat.reduceEqDiff,↓reduceIte,reduceCtorEq,Int.reduceBEq,Int.reduceBNe,Nat.reduceBEq,Int.reduceLE,Int.reduceLT,Int.reduceEq,Int.reduceNe,Int.reduceNeg,Nat.reduceDiv,Nat.reduceMod,Nat.reducePow,Zf,x0,x1,x2,x3,x4,x5,x6,x7,x8,x9,x10,hN0,hN]):A:=e p0 p1 p2 p3 p4 p5 p6 p7 p8 p9 p10
theorem Yi0 {A:Prop} {P0:Prop} (p0:P0) {P1:Prop} (p1:P1) {P2:Prop} (p2:P2) {P3:Prop} (p3:P3) {P4:Prop} (p4:P4) {P5:Prop} (p5:P5) (e:P0→P1→P2→P3→P4→P5→A:=by intro x0 x1 x2 x3 x4 x5;refine And.intro rfl (Fit2.of (Zz hU rfl rfl ?_) (by omega));simp only [push_cast,Nat.reduceAdd,Nat.reduceSub,Nat.reduceMul,Nat.reduceLeDiff,Nat.reduceLT,Nat.reduceEqDiff,↓reduceIte,reduceCtorEq,Int.reduceBEq,Int.reduceBNe,Nat.reduceBEq,Int.reduceLE,Int.reduceLT,Int.reduceEq,Int.reduceNe,Int.reduceNeg,Nat.reduceDiv,Nat.reduceMod,Nat.reducePow,Zf,x0,x1,x2,x3,x4,x5,hN0,hN]):A:=e p0 p1 p2 p3 p4 p5
theorem zRo {A B:Prop} (l0:List (Option Bool)) (b:B) (e:Ar l0→Hid B→A:=by intro x0 bZ;refine Yn Zt x0.v ?_;simp only [push_cast,seval,Zf,Ar.v,hN0,hN];exact bZ.get):A:=e ⟨⟩ ⟨b⟩
theorem Ya0 {A:Prop} {P0:Prop} (p0:P0) (e:P0→A:=by intro x0;simp only [push_cast,seval,Zf,x0,hN0,hN]):A:=e p0
theorem Yf0 {A:Prop} {P0:Prop} (p0:P0) {P1:Prop} (p1:P1) {P2:Prop} (p2:P2) {P3:Prop} (p3:P3) {P4:Prop} (p4:P4) {P5:Prop} (p5:P5) {P6:Prop} (p6:P6) (e:P0→P1→P2→P3→P4→P5→P6→A:=by intro x0 x1 x2 x3 x4 x5 x6;have h9:=Option.some.inj x0;subst h9;refine And.intro rfl (Fit2.of (Zz hU rfl rfl ?_) (by omega));simp only [push_cast,seval,Zf,x1,x2,x3,x4,x5,x6,hN0,hN]):A:=e p0 p1 p2 p3 p4 p5 p6
theorem Z6g {A B:Prop} (l0:List (Option Bool)) {P1:Prop} (p1:P1) {P2:Prop} (p2:P2) {P3:Prop} (p3:P3) {P4:Prop} (p4:P4) {P5:Prop} (p5:P5) (b:B) (e:Ar l0→P1→P2→P3→P4→P5→Hid B→A:=by intro x0 x1 x2 x3 x4 x5 bZ;refine Yn Zt x0.v ?_;simp only [push_cast,seval,Zf,Ar.v,x1,x2,x3,x4,x5,hN0,hN];exact bZ.get):A:=e ⟨⟩ p1 p2 p3 p4 p5 ⟨b⟩
end Go.Proofs.YtkbcdcffpefklaaGreat
