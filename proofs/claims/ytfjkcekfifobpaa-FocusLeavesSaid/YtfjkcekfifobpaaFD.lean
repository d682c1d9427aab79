/- Part FD of this seat's mirrors: functions of the seat's program, and the plain functions that they are; each theorem bears its own conditions. -/
import Derived.Test.YtfjkcekfifobpaaH25
import Derived.Test.YtfjkcekfifobpaaTy
namespace Go.Proofs.Ytfjkcekfifobpaa
open Go.RowKit
set_option linter.unusedVariables false
set_option linter.unusedSimpArgs false
set_option maxRecDepth 100000
set_option maxHeartbeats 4000000
structure Zb where
 Kind:Int
 Words:(List Int)
 Kids:(List Zb)
noncomputable def Qj (Qv:(Zb→Int→Int→Option Int)) (a0:Zb) (a1:Int) (s0_:(Int×Int)):Option ((Int×Int) ⊕ Int) :=
 cond (cond (decide (s0_.2 < (a0.Kids.length:Int))) (decide (0≤s0_.1)) false) ((Y7 a0.Kids s0_.2).bind fun x1=>(Qv x1 (IntKind.i64.wrap (a1 - 1)) s0_.1).bind fun y2=>some (.inl (y2,(IntKind.i64.wrap (s0_.2+1))))) (some (.inr s0_.1))
noncomputable def Qs (Qv:(Zb→Int→Int→Option Int)) (a0:Zb) (a1:Int) (a2:Int):Option Int :=
 cond (cond (a1 == 0) true (decide ((IntKind.i64.wrap ((IntKind.i64.wrap (a2 - 1)) - (a0.Words.length:Int))) < 0))) (some (-1)) ((Zv (Qj Qv a0 a1) ((IntKind.i64.wrap ((IntKind.i64.wrap (a2 - 1)) - (a0.Words.length:Int))),0)).bind fun (z4:Int)=>some z4)
noncomputable def Xb:Nat→(Zb→Int→Int→Option Int)
 | 0=>(fun _ _ _=>none)
 | k+1=>Qs ((Xb k))
noncomputable def X8 (a0:Zb) (a1:Int) (a2:Int):Option Int:=lim fun k=>(Xb k) a0 a1 a2
noncomputable def Zdc (a0:Zb):Option Bool :=
 (X8 a0 80 3000).bind fun y2=>some (decide (0≤y2))
noncomputable def Zg0 (a0:Int):Option Int :=
 cond (a0 == 0) (some 0) (cond (a0 == 1) (some 1) (cond (a0 == 2) (some 8) (cond (a0 == 3) (some 16) (cond (a0 == 4) (some 32) (cond (a0 == 5) (some 64) (some (-1)))))))
noncomputable def Qu (y2:Int) (s0_:(Int×Int)):Option ((Int×Int) ⊕ Int) :=
 cond (decide (s0_.2 < y2)) (some (.inl ((IntKind.u64.wrap (Int.tdiv s0_.1 2)),(IntKind.i64.wrap (s0_.2+1))))) (some (.inr s0_.1))
noncomputable def U6 (a0:Int) (a1:Int):Option Bool :=
 (Zg0 a0).bind fun y2=>cond (decide (y2 < 0)) (some false) ((Zv (Qu y2) (a1,0)).bind fun (z4:Int)=>some (z4 == 0))
noncomputable def Vx (Ji:(Zb→Int→Option Bool)) (a0:Zb) (a1:Int) (s0_:Int):Option (Int ⊕ (Unit ⊕ Unit)) :=
 cond (decide (s0_ < (a0.Kids.length:Int))) ((Y7 a0.Kids s0_).bind fun x2=>(Ji x2 (IntKind.i64.wrap (a1 - 1))).bind fun y4=>cond (!y4) (some (.inr (.inl ()))) ((cond ((cond (decide (2≤a0.Kind)) (decide (a0.Kind≤7)) false) != (x2.Kind == 10)) (some true) (cond (a0.Kind == 9) (cond (x2.Kind != 1) (some true) (cond (decide (2≤a0.Kind)) (cond (decide (a0.Kind≤7)) ((Y7 x2.Words 0).bind fun x14=>(U6 (IntKind.i64.wrap (a0.Kind - 2)) x14).bind fun y15=>some (cond (cond ((cond (decide (2≤a0.Kind)) (decide (a0.Kind≤7)) false) != (x2.Kind == 10)) true (cond (a0.Kind == 9) (x2.Kind != 1) false)) true (cond (cond (decide (2≤a0.Kind)) (decide (a0.Kind≤7)) false) (!y15) false))) (some (cond (cond ((cond (decide (2≤a0.Kind)) (decide (a0.Kind≤7)) false) != (x2.Kind == 10)) true (cond (a0.Kind == 9) (x2.Kind != 1) false)) true false))) (some (cond (cond ((cond (decide (2≤a0.Kind)) (decide (a0.Kind≤7)) false) != (x2.Kind == 10)) true (cond (a0.Kind == 9) (x2.Kind != 1) false)) true false)))) (cond (decide (2≤a0.Kind)) (cond (decide (a0.Kind≤7)) ((Y7 x2.Words 0).bind fun x16=>(U6 (IntKind.i64.wrap (a0.Kind - 2)) x16).bind fun y17=>some (cond (cond ((cond (decide (2≤a0.Kind)) (decide (a0.Kind≤7)) false) != (x2.Kind == 10)) true (cond (a0.Kind == 9) (x2.Kind != 1) false)) true (cond (cond (decide (2≤a0.Kind)) (decide (a0.Kind≤7)) false) (!y17) false))) (some (cond (cond ((cond (decide (2≤a0.Kind)) (decide (a0.Kind≤7)) false) != (x2.Kind == 10)) true (cond (a0.Kind == 9) (x2.Kind != 1) false)) true false))) (some (cond (cond ((cond (decide (2≤a0.Kind)) (decide (a0.Kind≤7)) false) != (x2.Kind == 10)) true (cond (a0.Kind == 9) (x2.Kind != 1) false)) true false))))).bind fun (z9:Bool)=>cond z9 (some (.inr (.inl ()))) (some (.inl (IntKind.i64.wrap (s0_+1)))))) (some (.inr (.inr ())))
noncomputable def Zad (Ji:(Zb→Int→Option Bool)) (a0:Zb) (a1:Int):Option Bool :=
 cond (a0.Kind == 0) (some (cond ((a0.Words.length:Int) == 0) ((a0.Kids.length:Int) == 0) false)) (cond (a0.Kind == 10) (some (cond ((a0.Words.length:Int) == 1) ((a0.Kids.length:Int) == 0) false)) (cond (cond (cond (cond (cond (cond (decide (a0.Kind < 0)) true (decide (10 < a0.Kind))) true (a1 == 0)) true (decide (65536≤(a0.Words.length:Int)))) true (cond (a0.Kind == 1) (decide (65536≤(a0.Kids.length:Int))) false)) true (decide (1048576≤(a0.Kids.length:Int)))) (some false) (cond (cond (decide (1 < a0.Kind)) (decide (0 < (a0.Words.length:Int))) false) (some false) ((Zv (Vx Ji a0 a1) 0).bind fun (z28:(Unit ⊕ Unit))=>match z28 with | .inl z28=>some false | .inr z28=>some true))))
noncomputable def Ju:Nat→(Zb→Int→Option Bool)
 | 0=>(fun _ _=>none)
 | k+1=>Zad ((Ju k))
noncomputable def V8 (a0:Zb) (a1:Int):Option Bool:=lim fun k=>(Ju k) a0 a1
noncomputable def U5 (a0:Zb):Option Bool :=
 ((Zdc a0).bind fun y6=>cond y6 ((V8 a0 64).bind fun y7=>some (cond (cond y6 y7 false) (a0.Kind != 10) false)) (some false)).bind fun (z3:Bool)=>some z3
structure Zt where
 At:Int
 Mask:Int
 Old:Int
 New:Int
mutual
structure Zc where
 Kind:Int
 Old:Zb
 New:Zb
 Words:(List Zt)
 Kids:(List Zk)
 List_:Int
 Ops:(List Zh)
structure Zh where
 Kind:Int
 N:Int
 L:(List Zb)
 E:Zc
structure Zk where
 At:Int
 E:Zc
end
noncomputable def X5 (Qb:(Zc→Int→Int→Option Int)) (a0:Zc) (a1:Int) (s0_:(Int×Int)):Option ((Int×Int) ⊕ Int) :=
 cond (cond (decide (s0_.2 < (a0.Kids.length:Int))) (decide (0≤s0_.1)) false) ((Y7 a0.Kids s0_.2).bind fun x6=>(Qb x6.E (IntKind.i64.wrap (a1 - 1)) s0_.1).bind fun y8=>some (.inl (y8,(IntKind.i64.wrap (s0_.2+1))))) (some (.inr s0_.1))
noncomputable def Qt (a0:Zc) (s1_:(Int×Int)) (s2_:(Int×Int)):Option ((Int×Int) ⊕ Int) :=
 (Y7 a0.Ops s1_.2).bind fun x14=>cond (cond (decide (s2_.2 < (x14.L.length:Int))) (decide (0≤s2_.1)) false) ((Y7 a0.Ops s1_.2).bind fun x16=>(Y7 x16.L s2_.2).bind fun x18=>(X8 x18 80 s2_.1).bind fun y19=>some (.inl (y19,(IntKind.i64.wrap (s2_.2+1))))) (some (.inr s2_.1))
noncomputable def X6 (Qb:(Zc→Int→Int→Option Int)) (a0:Zc) (a1:Int) (s1_:(Int×Int)):Option ((Int×Int) ⊕ Int) :=
 cond (cond (decide (s1_.2 < (a0.Ops.length:Int))) (decide (0≤s1_.1)) false) (((Zv (Qt a0 s1_) (s1_.1,0)).bind fun (z21:Int)=>cond (decide (0≤z21)) ((Y7 a0.Ops s1_.2).bind fun x22=>(Qb x22.E (IntKind.i64.wrap (a1 - 1)) z21).bind fun y24=>some y24) (some z21)).bind fun (z11:Int)=>some (.inl (z11,(IntKind.i64.wrap (s1_.2+1))))) (some (.inr s1_.1))
noncomputable def Qn (Qb:(Zc→Int→Int→Option Int)) (a0:Zc) (a1:Int) (a2:Int):Option Int :=
 cond (cond (a1 == 0) true (decide ((IntKind.i64.wrap ((IntKind.i64.wrap ((IntKind.i64.wrap (a2 - 1)) - (a0.Words.length:Int))) - (a0.Ops.length:Int))) < 0))) (some (-1)) ((X8 a0.Old 80 (IntKind.i64.wrap ((IntKind.i64.wrap ((IntKind.i64.wrap (a2 - 1)) - (a0.Words.length:Int))) - (a0.Ops.length:Int)))).bind fun y2=>(cond (decide (0≤y2)) ((X8 a0.New 80 y2).bind fun y4=>some y4) (some y2)).bind fun (z3:Int)=>(Zv (X5 Qb a0 a1) (z3,0)).bind fun (z10:Int)=>(Zv (X6 Qb a0 a1) (z10,0)).bind fun (z27:Int)=>some z27)
noncomputable def Yd:Nat→(Zc→Int→Int→Option Int)
 | 0=>(fun _ _ _=>none)
 | k+1=>Qn ((Yd k))
noncomputable def Zeu (a0:Zc) (a1:Int) (a2:Int):Option Int:=lim fun k=>(Yd k) a0 a1 a2
noncomputable def V9 (a0:Zc):Option Bool :=
 (Zeu a0 80 3000).bind fun y2=>some (decide (0≤y2))
noncomputable def J0 (a0:Zb):Option Bool :=
 some (cond (a0.Kind == 0) ((IntKind.i64.wrap ((a0.Words.length:Int)+(a0.Kids.length:Int))) == 0) false)
noncomputable def V1 (s0_:(Int×Int×(Arr Int 8))):Option ((Int×Int×(Arr Int 8)) ⊕ (Arr Int 8)) :=
 cond (decide (s0_.2.1 < 8)) ((Y7 s0_.2.2.1 s0_.2.1).bind fun x15=>some (.inl ((IntKind.u64.wrap (Int.tdiv s0_.1 256)),(IntKind.i64.wrap (s0_.2.1+1)),(Arr.put s0_.2.2 s0_.2.1 (IntKind.u8.wrap (Int.tmod s0_.1 256)))))) (some (.inr s0_.2.2))
noncomputable def V7 (a0:Int):Option (Arr Int 8) :=
 ((some (⟨[0,0,0,0,0,0,0,0],rfl⟩:(Arr Int 8)))).bind fun y3=>((some (⟨[0,0,0,0,0,0,0,0],rfl⟩:(Arr Int 8)))).bind fun y9=>(Zv (V1) (a0,0,y9)).bind fun (z18:(Arr Int 8))=>some z18
noncomputable def Ka (a1:Int) (s0_:(Int×Int)):Option ((Int×Int) ⊕ Int) :=
 cond (decide (s0_.2 < a1)) (some (.inl ((IntKind.u8.wrap (Int.tdiv s0_.1 2)),(IntKind.i64.wrap (s0_.2+1))))) (some (.inr s0_.1))
noncomputable def Zar (a0:Int) (a1:Int):Option Bool :=
 (Zv (Ka a1) (a0,0)).bind fun (z2:Int)=>some ((Int.tmod z2 2) == 1)
noncomputable def Zas (a0:(List Int)) (a1:Int) (s0_:(Int×Int)):Option ((Int×Int) ⊕ Int) :=
 cond (decide (0≤s0_.2)) ((Y7 a0 (IntKind.i64.wrap (a1+s0_.2))).bind fun x1=>some (.inl ((IntKind.u64.wrap ((IntKind.u64.wrap (s0_.1 * 256))+(IntKind.u64.wrap x1))),(IntKind.i64.wrap (s0_.2 - 1))))) (some (.inr s0_.1))
noncomputable def Zgs (a0:(List Int)) (a1:Int):Option Int :=
 (Zv (Zas a0 a1) (0,7)).bind fun (z3:Int)=>some z3
noncomputable def Gt (a2:Int) (y9:(Arr Int 8)) (s0_:(Int×(Arr Int 8))):Option ((Int×(Arr Int 8)) ⊕ (Arr Int 8)) :=
 cond (decide (s0_.1 < 8)) (((Zar a2 s0_.1).bind fun y17=>cond y17 ((Y7 y9.1 s0_.1).bind fun x18=>(Y7 s0_.2.1 s0_.1).bind fun x19=>some (Arr.put s0_.2 s0_.1 x18)) (some s0_.2)).bind fun (z15:(Arr Int 8))=>some (.inl ((IntKind.i64.wrap (s0_.1+1)),z15))) (some (.inr s0_.2))
noncomputable def Zdb (a0:Int) (a1:Int) (a2:Int):Option Int :=
 (V7 a0).bind fun y8=>(V7 a1).bind fun y9=>((some (⟨[0,0,0,0,0,0,0,0],rfl⟩:(Arr Int 8)))).bind fun y10=>(Zv (Gt a2 y9) (0,y8)).bind fun (z23:(Arr Int 8))=>(Zgs z23.1 0).bind fun y29=>some y29
noncomputable def Vi (a0:Int) (a1:Int):Option Bool :=
 (Zdb a0 0 a1).bind fun y2=>some (y2 == 0)
noncomputable def U9 (a0:Zc):Option Bool :=
 (cond (a0.Kind == 0) ((J0 a0.Old).bind fun y6=>cond y6 ((J0 a0.New).bind fun y7=>some (cond (cond (cond (cond (a0.Kind == 0) y6 false) y7 false) ((IntKind.i64.wrap ((IntKind.i64.wrap ((a0.Words.length:Int)+(a0.Kids.length:Int)))+(a0.Ops.length:Int))) == 0) false) (a0.List_ == 0) false)) (some false)) (some false)).bind fun (z3:Bool)=>some z3
noncomputable def Kv (a0:Zc) (s0_:(Int×Int×Int)):Option ((Int×Int×Int) ⊕ (Int×Int)) :=
 cond (decide (s0_.2.2 < (a0.Ops.length:Int))) (((Y7 a0.Ops s0_.2.2).bind fun x3=>(cond (x3.Kind == 3) (some 1) (some (IntKind.i64.wrap (x3.N+(x3.L.length:Int))))).bind fun (z4:Int)=>(cond (x3.Kind != 2) (some (IntKind.i64.wrap (s0_.1+z4))) (some s0_.1)).bind fun (z6:Int)=>(cond (x3.Kind != 1) (some (IntKind.i64.wrap (s0_.2.1+z4))) (some s0_.2.1)).bind fun (z8:Int)=>(cond (decide (1048576 < z6)) (some 1048576) (some z6)).bind fun (z10:Int)=>cond (decide (1048576 < z8)) (some (z10,1048576)) (some (z10,z8))).bind fun (z1:(Int×Int))=>some (.inl (z1.1,z1.2,(IntKind.i64.wrap (s0_.2.2+1))))) (some (.inr (s0_.1,s0_.2.1)))
noncomputable def Ku (a0:Zc):Option (Int×Int) :=
 (Zv (Kv a0) (0,0,0)).bind fun (z14:(Int×Int))=>some (z14.1,z14.2)
noncomputable def J8 (a0:Zc) (s0_:(Int×Int)):Option ((Int×Int) ⊕ (Unit ⊕ Unit)) :=
 cond (decide (s0_.2 < (a0.Words.length:Int))) ((Y7 a0.Words s0_.2).bind fun x19=>(cond (decide (x19.At≤s0_.1)) (some true) (cond (decide (65534 < x19.At)) (some true) (cond (x19.Mask == 0) (some true) ((Vi x19.Old x19.Mask).bind fun y25=>cond y25 ((Vi x19.New x19.Mask).bind fun y26=>some (cond (cond (cond (cond (decide (x19.At≤s0_.1)) true (decide (65534 < x19.At))) true (x19.Mask == 0)) true (!y25)) true (!y26))) (some true))))).bind fun (z22:Bool)=>cond z22 (some (.inr (.inl ()))) (some (.inl (x19.At,(IntKind.i64.wrap (s0_.2+1)))))) (some (.inr (.inr ())))
noncomputable def J9 (Xq:(Zc→Int→Option Bool)) (a0:Zc) (a1:Int) (s1_:(Int×Int)):Option ((Int×Int) ⊕ (Unit ⊕ Unit)) :=
 cond (decide (s1_.2 < (a0.Kids.length:Int))) ((Y7 a0.Kids s1_.2).bind fun x35=>(cond (decide (x35.At≤s1_.1)) (some true) (cond (decide (65534 < x35.At)) (some true) (cond (x35.E.Kind == 0) (some true) ((Xq x35.E (IntKind.i64.wrap (a1 - 1))).bind fun y39=>some (cond (cond (cond (decide (x35.At≤s1_.1)) true (decide (65534 < x35.At))) true (x35.E.Kind == 0)) true (!y39)))))).bind fun (z37:Bool)=>cond z37 (some (.inr (.inl ()))) (some (.inl (x35.At,(IntKind.i64.wrap (s1_.2+1)))))) (some (.inr (.inr ())))
noncomputable def Q6 (Qi:(Int→Zh→Int→Option Bool)) (a0:Zc) (a1:Int) (s2_:Int):Option (Int ⊕ (Unit ⊕ Unit)) :=
 cond (decide (s2_ < (a0.Ops.length:Int))) ((Y7 a0.Ops s2_).bind fun x48=>(Qi a0.List_ x48 (IntKind.i64.wrap (a1 - 1))).bind fun y49=>cond (!y49) (some (.inr (.inl ()))) (some (.inl (IntKind.i64.wrap (s2_+1))))) (some (.inr (.inr ())))
noncomputable def Zaf (Xq:(Zc→Int→Option Bool)) (Qi:(Int→Zh→Int→Option Bool)) (a0:Zc) (a1:Int):Option Bool :=
 cond (cond (cond (a1 == 0) true (decide (a0.Kind < 0))) true (decide (3 < a0.Kind))) (some false) ((cond (a0.Kind != 1) ((J0 a0.Old).bind fun y6=>cond y6 ((J0 a0.New).bind fun y7=>some (cond (cond (cond (a0.Kind != 1) (!(cond y6 y7 false)) false) true (cond (a0.Kind != 2) (decide (0 < (IntKind.i64.wrap ((a0.Words.length:Int)+(a0.Kids.length:Int))))) false)) true (cond (a0.Kind != 3) (cond (a0.List_ != 0) true (decide (0 < (a0.Ops.length:Int)))) false))) (some true)) (some (cond (cond (a0.Kind != 2) (decide (0 < (IntKind.i64.wrap ((a0.Words.length:Int)+(a0.Kids.length:Int))))) false) true (cond (a0.Kind != 3) (cond (a0.List_ != 0) true (decide (0 < (a0.Ops.length:Int)))) false)))).bind fun (z3:Bool)=>cond z3 (some false) (cond (a0.Kind == 1) (((V8 a0.Old 64).bind fun y15=>cond y15 ((V8 a0.New 64).bind fun y16=>some (cond (cond (cond y15 y16 false) (a0.Old.Kind != 10) false) (a0.New.Kind != 10) false)) (some false)).bind fun (z12:Bool)=>some z12) ((Zv (J8 a0) ((-1),0)).bind fun (z33:(Unit ⊕ Unit))=>match z33 with | .inl z33=>some false | .inr z33=>(Zv (J9 Xq a0 a1) ((-1),0)).bind fun (z45:(Unit ⊕ Unit))=>match z45 with | .inl z45=>some false | .inr z45=>cond (cond (a0.Kind == 3) (cond (decide (a0.List_ < 2)) true (decide (9 < a0.List_))) false) (some false) ((Zv (Q6 Qi a0 a1) 0).bind fun (z52:(Unit ⊕ Unit))=>match z52 with | .inl z52=>some false | .inr z52=>(Ku a0).bind fun y54=>some (cond (decide (y54.1 < 1048576)) (decide (y54.2 < 1048576)) false)))))
noncomputable def Zag (a0:Int) (a1:Zh) (s0_:Int):Option (Int ⊕ (Unit ⊕ Unit)) :=
 cond (decide (s0_ < (a1.L.length:Int))) ((Zf1 a1.L s0_ (IntKind.i64.wrap (s0_+1))).bind fun l10=>(V8 (⟨a0,[],l10⟩:Zb) 64).bind fun y11=>cond (!y11) (some (.inr (.inl ()))) (some (.inl (IntKind.i64.wrap (s0_+1))))) (some (.inr (.inr ())))
noncomputable def Zd1 (Xq:(Zc→Int→Option Bool)) (Qi:(Int→Zh→Int→Option Bool)) (a0:Int) (a1:Zh) (a2:Int):Option Bool :=
 cond (a1.Kind == 0) ((cond (decide (1≤a1.N)) (cond (decide (a1.N≤1048576)) (cond ((a1.L.length:Int) == 0) ((U9 a1.E).bind fun y4=>some (cond (cond (cond (decide (1≤a1.N)) (decide (a1.N≤1048576)) false) ((a1.L.length:Int) == 0) false) y4 false)) (some false)) (some false)) (some false)).bind fun (z2:Bool)=>some z2) (cond (cond (cond (a1.N != 0) true (decide (a1.Kind < 0))) true (decide (3 < a1.Kind))) (some false) (cond (decide (a1.Kind < 3)) ((Zv (Zag a0 a1) 0).bind fun (z14:(Unit ⊕ Unit))=>match z14 with | .inl z14=>some false | .inr z14=>(cond (decide (0 < (a1.L.length:Int))) ((U9 a1.E).bind fun y18=>some (cond (decide (0 < (a1.L.length:Int))) y18 false)) (some false)).bind fun (z16:Bool)=>some z16) ((cond (decide (0 < (a1.L.length:Int))) (some true) (cond (a1.E.Kind == 0) (some true) (cond (decide (a0≤7)) (some true) ((Xq a1.E a2).bind fun y23=>some (cond (cond (cond (decide (0 < (a1.L.length:Int))) true (a1.E.Kind == 0)) true (decide (a0≤7))) true (!y23)))))).bind fun (z21:Bool)=>cond z21 (some false) (some (cond (cond (a0 == 8) true (a1.E.Kind == 2)) true (cond (cond (a1.E.Kind == 1) (a1.E.Old.Kind == 1) false) (a1.E.New.Kind == 1) false))))))
noncomputable def Yy:Nat→((Zc→Int→Option Bool)×(Int→Zh→Int→Option Bool))
 | 0=>((fun _ _=>none),(fun _ _ _=>none))
 | k+1=>(Zaf ((Yy k).1) ((Yy k).2),Zd1 ((Yy k).1) ((Yy k).2))
noncomputable def Zg2 (a0:Zc) (a1:Int):Option Bool:=lim fun k=>(Yy k).1 a0 a1
noncomputable def Vy (Xx:(Zc→Option Bool)) (a0:Zc) (s0_:Int):Option (Int ⊕ (Unit ⊕ Unit)) :=
 cond (decide (s0_ < (a0.Kids.length:Int))) ((Y7 a0.Kids s0_).bind fun x6=>(Xx x6.E).bind fun y8=>cond (!y8) (some (.inr (.inl ()))) (some (.inl (IntKind.i64.wrap (s0_+1))))) (some (.inr (.inr ())))
noncomputable def Vz (Xx:(Zc→Option Bool)) (a0:Zc) (s1_:Int):Option (Int ⊕ (Unit ⊕ Unit)) :=
 cond (decide (s1_ < (a0.Ops.length:Int))) ((Y7 a0.Ops s1_).bind fun x15=>(Xx x15.E).bind fun y17=>cond (!y17) (some (.inr (.inl ()))) (some (.inl (IntKind.i64.wrap (s1_+1))))) (some (.inr (.inr ())))
noncomputable def Zae (Xx:(Zc→Option Bool)) (a0:Zc):Option Bool :=
 (Ku a0).bind fun y2=>cond (cond (decide (2000 < y2.1)) true (decide (2000 < y2.2))) (some false) ((Zv (Vy Xx a0) 0).bind fun (z11:(Unit ⊕ Unit))=>match z11 with | .inl z11=>some false | .inr z11=>(Zv (Vz Xx a0) 0).bind fun (z20:(Unit ⊕ Unit))=>match z20 with | .inl z20=>some false | .inr z20=>some true)
noncomputable def Jv:Nat→(Zc→Option Bool)
 | 0=>(fun _=>none)
 | k+1=>Zae ((Jv k))
noncomputable def Zg1 (a0:Zc):Option Bool:=lim fun k=>(Jv k) a0
noncomputable def Zb1 (a0:Zc):Option Bool :=
 ((V9 a0).bind fun y8=>cond y8 ((Zg2 a0 64).bind fun y9=>cond y9 ((Zg1 a0).bind fun y10=>some (cond (cond y8 y9 false) y10 false)) (some false)) (some false)).bind fun (z4:Bool)=>some z4
noncomputable def Uy (a0:Int):Option Bool :=
 some (cond (decide (2≤a0)) (decide (a0≤9)) false)
structure Zx where
 Kind:Int
 At:Int
noncomputable def Zcs (a0:Zb) (a1:Zx):Option Bool :=
 cond (cond (a1.Kind != 0) true (decide (a1.At < 0))) (some false) ((cond (a0.Kind == 1) (cond (decide (a1.At≤65534)) (some true) ((Uy a0.Kind).bind fun y6=>some (cond (cond (a0.Kind == 1) (decide (a1.At≤65534)) false) true (cond y6 (decide (a1.At < (a0.Kids.length:Int))) false)))) ((Uy a0.Kind).bind fun y7=>some (cond (cond (a0.Kind == 1) (decide (a1.At≤65534)) false) true (cond y7 (decide (a1.At < (a0.Kids.length:Int))) false)))).bind fun (z3:Bool)=>some z3)
noncomputable def Zfe (a0:Zb) (a1:Int):Option Zb :=
 cond (cond (decide (a1 < 0)) true (decide ((a0.Kids.length:Int)≤a1))) (some (⟨0,[],[]⟩:Zb)) ((Y7 a0.Kids a1).bind fun x2=>some x2)
noncomputable def Ua (a0:(List Zh)) (a1:Int):Option (List Zh) :=
 cond (a1 == 0) (some a0) ((Gq 240 a0 ([(⟨0,a1,[],⟨0,⟨0,[],[]⟩,⟨0,[],[]⟩,[],[],0,[]⟩⟩:Zh)]:List Zh)).bind fun l2=>some l2)
noncomputable def Gi (Zbl:(Zb→(List Zx)→Zc→Option (Zc×Bool))) (a0:Zb) (a1:(List Zx)) (a2:Zc):Option (Zc×Bool) :=
 cond ((a1.length:Int) == 0) (some (a2,(a0.Kind != 10))) ((Y7 a1 0).bind fun x3=>(Y7 a1 0).bind fun x7=>(Zcs a0 x7).bind fun y8=>cond (!y8) (some ((⟨0,⟨0,[],[]⟩,⟨0,[],[]⟩,[],[],0,[]⟩:Zc),false)) ((Zfe a0 x3.At).bind fun y12=>(Zf1 a1 1 (a1.length:Int)).bind fun l13=>(Zbl y12 l13 a2).bind fun y14=>cond (cond (!y14.2) true (y14.1.Kind == 0)) (some ((⟨0,⟨0,[],[]⟩,⟨0,[],[]⟩,[],[],0,[]⟩:Zc),y14.2)) (cond (a0.Kind == 1) (some ((⟨2,⟨0,[],[]⟩,⟨0,[],[]⟩,[],([(⟨x3.At,y14.1⟩:Zk)]:List Zk),0,[]⟩:Zc),true)) ((Ua ([]:(List Zh)) x3.At).bind fun y16=>(Gq 240 y16 ([(⟨3,0,[],y14.1⟩:Zh)]:List Zh)).bind fun l18=>(Ua l18 (IntKind.i64.wrap ((IntKind.i64.wrap ((a0.Kids.length:Int) - x3.At)) - 1))).bind fun y20=>some ((⟨3,⟨0,[],[]⟩,⟨0,[],[]⟩,[],[],a0.Kind,y20⟩:Zc),true)))))
noncomputable def G8:Nat→(Zb→(List Zx)→Zc→Option (Zc×Bool))
 | 0=>(fun _ _ _=>none)
 | k+1=>Gi ((G8 k))
noncomputable def Zgt (a0:Zb) (a1:(List Zx)) (a2:Zc):Option (Zc×Bool):=lim fun k=>(G8 k) a0 a1 a2
noncomputable def Gu (a0:(List Int)) (s0_:Int):Option (Int ⊕ Int) :=
 (cond (decide (0 < s0_)) ((Y7 a0 (IntKind.i64.wrap (s0_ - 1))).bind fun x4=>some (cond (decide (0 < s0_)) (x4 == 0) false)) (some false)).bind fun (z2:Bool)=>cond z2 (some (.inl (IntKind.i64.wrap (s0_ - 1)))) (some (.inr s0_))
noncomputable def Ub (a0:(List Int)):Option (List Int) :=
 (Zv (Gu a0) (a0.length:Int)).bind fun (z7:Int)=>(Zf1 a0 0 z7).bind fun l9=>some l9
noncomputable def Zau (a0:(List Zb)) (s0_:Int):Option (Int ⊕ Int) :=
 (cond (decide (0 < s0_)) ((Y7 a0 (IntKind.i64.wrap (s0_ - 1))).bind fun x6=>some (cond (decide (0 < s0_)) (x6.Kind == 0) false)) (some false)).bind fun (z3:Bool)=>cond z3 (some (.inl (IntKind.i64.wrap (s0_ - 1)))) (some (.inr s0_))
noncomputable def Gl (a0:(List Zb)):Option (List Zb) :=
 (Zv (Zau a0) (a0.length:Int)).bind fun (z10:Int)=>(Zf1 a0 0 z10).bind fun l12=>some l12
noncomputable def Zc8 (Zdo:(Zb→Option Zb)) (z1:((List Int)×(List Zb))) (s0_:(Int×(List Zb))):Option ((Int×(List Zb)) ⊕ (List Zb)) :=
 cond (decide (s0_.1 < (z1.2.length:Int))) ((Y7 z1.2 s0_.1).bind fun x9=>(Zdo x9).bind fun y10=>(Y7 s0_.2 s0_.1).bind fun x11=>some (.inl ((IntKind.i64.wrap (s0_.1+1)),(Zf0 s0_.2 s0_.1 y10)))) (some (.inr s0_.2))
noncomputable def Ziu (Zdo:(Zb→Option Zb)) (a0:Zb):Option Zb :=
 cond (a0.Kind == 0) (some (⟨0,[],[]⟩:Zb)) ((cond (a0.Kind == 1) ((Ub a0.Words).bind fun y2=>(Gl a0.Kids).bind fun y3=>some (y2,y3)) (some (a0.Words,a0.Kids))).bind fun (z1:((List Int)×(List Zb)))=>(cond (decide (0 < (z1.2.length:Int))) ((Zpa 56 (z1.2.length:Int) (⟨(0:Int),[],[]⟩:Zb)).bind fun l6=>some l6) (some ([]:List Zb))).bind fun (z5:(List Zb))=>(Zv (Zc8 Zdo z1) (0,z5)).bind fun (z14:(List Zb))=>some (⟨a0.Kind,z1.1,z14⟩:Zb))
noncomputable def Gx:Nat→(Zb→Option Zb)
 | 0=>(fun _=>none)
 | k+1=>Ziu ((Gx k))
noncomputable def Zdl (a0:Zb):Option Zb:=lim fun k=>(Gx k) a0
noncomputable def Q7 (a0:List Zt):Option (List Zt) :=
 Gq 32 ([]:List Zt) a0
structure Zy where
 out:(List Zh)
 kept:Int
 gone:(List Zb)
 come:(List Zb)
noncomputable def X0 (a0:Zy):Option Zy :=
 (cond (decide (0 < a0.kept)) ((Gq 240 a0.out ([(⟨0,0,[],⟨0,⟨0,[],[]⟩,⟨0,[],[]⟩,[],[],0,[]⟩⟩:Zh)]:List Zh)).bind fun l2=>(Y7 l2 (a0.out.length:Int)).bind fun x3=>some (a0.out++[(⟨0,a0.kept,[],⟨0,⟨0,[],[]⟩,⟨0,[],[]⟩,[],[],0,[]⟩⟩:Zh)])) (some a0.out)).bind fun (z1:(List Zh))=>(cond (decide (0 < (a0.gone.length:Int))) ((Gq 240 z1 ([(⟨0,0,[],⟨0,⟨0,[],[]⟩,⟨0,[],[]⟩,[],[],0,[]⟩⟩:Zh)]:List Zh)).bind fun l9=>(Y7 l9 (z1.length:Int)).bind fun x10=>some ((z1++[(⟨1,0,a0.gone,⟨0,⟨0,[],[]⟩,⟨0,[],[]⟩,[],[],0,[]⟩⟩:Zh)]),a0.gone)) (some (z1,a0.gone))).bind fun (z6:((List Zh)×(List Zb)))=>(cond (decide (0 < (a0.come.length:Int))) ((Gq 240 z6.1 ([(⟨0,0,[],⟨0,⟨0,[],[]⟩,⟨0,[],[]⟩,[],[],0,[]⟩⟩:Zh)]:List Zh)).bind fun l16=>(Y7 l16 (z6.1.length:Int)).bind fun x17=>some ((z6.1++[(⟨2,0,a0.come,⟨0,⟨0,[],[]⟩,⟨0,[],[]⟩,[],[],0,[]⟩⟩:Zh)]),a0.come)) (some (z6.1,a0.come))).bind fun (z13:((List Zh)×(List Zb)))=>some (⟨z13.1,0,[],[]⟩:Zy)
noncomputable def Kx (a0:Zy) (a1:Int):Option Zy :=
 (cond (a0.kept == 0) ((X0 (⟨a0.out,a0.kept,a0.gone,a0.come⟩:Zy)).bind fun y2=>some (y2.out,y2.gone,y2.come,y2.kept)) (some (a0.out,a0.gone,a0.come,a0.kept))).bind fun (z1:((List Zh)×(List Zb)×(List Zb)×Int))=>some (⟨z1.1,(IntKind.i64.wrap (z1.2.2.2+a1)),z1.2.1,z1.2.2.1⟩:Zy)
noncomputable def Q8 (a2:(List Zb)) (s0_:(Int×(List Zb))):Option ((Int×(List Zb)) ⊕ (List Zb)) :=
 cond (decide (s0_.1 < (a2.length:Int))) ((Y7 a2 s0_.1).bind fun x5=>(Zdl x5).bind fun y6=>(Gq 56 s0_.2 ([(⟨0,[],[]⟩:Zb)]:List Zb)).bind fun l7=>(Y7 l7 (s0_.2.length:Int)).bind fun x8=>some (.inl ((IntKind.i64.wrap (s0_.1+1)),(s0_.2++[y6])))) (some (.inr s0_.2))
noncomputable def Kh (a0:Zy) (a2:(List Zb)):Option Zy :=
 (cond (decide (0 < a0.kept)) ((X0 (⟨a0.out,a0.kept,a0.gone,a0.come⟩:Zy)).bind fun y2=>some (y2.out,y2.gone,y2.come,y2.kept)) (some (a0.out,a0.gone,a0.come,a0.kept))).bind fun (z1:((List Zh)×(List Zb)×(List Zb)×Int))=>(Zv (Q8 a2) (0,z1.2.1)).bind fun (z11:(List Zb))=>some (⟨z1.1,z1.2.2.2,z11,z1.2.2.1⟩:Zy)
noncomputable def Q9 (a2:(List Zb)) (s0_:(Int×(List Zb))):Option ((Int×(List Zb)) ⊕ (List Zb)) :=
 cond (decide (s0_.1 < (a2.length:Int))) ((Y7 a2 s0_.1).bind fun x5=>(Zdl x5).bind fun y6=>(Gq 56 s0_.2 ([(⟨0,[],[]⟩:Zb)]:List Zb)).bind fun l7=>(Y7 l7 (s0_.2.length:Int)).bind fun x8=>some (.inl ((IntKind.i64.wrap (s0_.1+1)),(s0_.2++[y6])))) (some (.inr s0_.2))
noncomputable def Ki (a0:Zy) (a2:(List Zb)):Option Zy :=
 (cond (decide (0 < a0.kept)) ((X0 (⟨a0.out,a0.kept,a0.gone,a0.come⟩:Zy)).bind fun y2=>some (y2.out,y2.gone,y2.come,y2.kept)) (some (a0.out,a0.gone,a0.come,a0.kept))).bind fun (z1:((List Zh)×(List Zb)×(List Zb)×Int))=>(Zv (Q9 a2) (0,z1.2.2.1)).bind fun (z11:(List Zb))=>some (⟨z1.1,z1.2.2.2,z1.2.1,z11⟩:Zy)
noncomputable def Zgh (a0:Int) (a1:Zc):Option Bool :=
 some (cond (a1.Kind == 0) true (cond (cond (a0 == 9) (a1.Kind == 2) false) ((IntKind.i64.wrap ((a1.Words.length:Int)+(a1.Kids.length:Int))) == 0) false))
noncomputable def Kw (a0:Zy) (a1:Int) (a2:Zc):Option Zy :=
 (Zgh a1 a2).bind fun y2=>cond y2 ((Kx (⟨a0.out,a0.kept,a0.gone,a0.come⟩:Zy) 1).bind fun y4=>some (⟨y4.out,y4.kept,y4.gone,y4.come⟩:Zy)) ((X0 (⟨a0.out,a0.kept,a0.gone,a0.come⟩:Zy)).bind fun y6=>(Gq 240 y6.out ([(⟨0,0,[],⟨0,⟨0,[],[]⟩,⟨0,[],[]⟩,[],[],0,[]⟩⟩:Zh)]:List Zh)).bind fun l7=>(Y7 l7 (y6.out.length:Int)).bind fun x8=>some (⟨(y6.out++[(⟨3,0,[],a2⟩:Zh)]),y6.kept,y6.gone,y6.come⟩:Zy))
noncomputable def Zc7 (Qf:(Zc→Option Zc)) (a0:Zc) (s0_:(Int×(List Zk))):Option ((Int×(List Zk)) ⊕ (List Zk)) :=
 cond (decide (s0_.1 < (a0.Kids.length:Int))) ((Y7 a0.Kids s0_.1).bind fun x8=>(Qf x8.E).bind fun y9=>(Gq 208 s0_.2 ([(⟨x8.At,y9⟩:Zk)]:List Zk)).bind fun l10=>some (.inl ((IntKind.i64.wrap (s0_.1+1)),l10))) (some (.inr s0_.2))
noncomputable def Zgb (Qf:(Zc→Option Zc)) (Uk:(Int→(List Zh)→Option (List Zh))) (a0:Zc):Option Zc :=
 cond (a0.Kind == 1) ((Zdl a0.Old).bind fun y3=>(Zdl a0.New).bind fun y4=>some (⟨1,y3,y4,[],[],0,[]⟩:Zc)) (cond (a0.Kind == 2) ((Q7 a0.Words).bind fun y6=>(Zv (Zc7 Qf a0) (0,([]:List Zk))).bind fun (z12:(List Zk))=>some (⟨2,⟨0,[],[]⟩,⟨0,[],[]⟩,y6,z12,0,[]⟩:Zc)) (cond (a0.Kind == 3) ((Uk a0.List_ a0.Ops).bind fun y14=>some (⟨3,⟨0,[],[]⟩,⟨0,[],[]⟩,[],[],a0.List_,y14⟩:Zc)) (some (⟨0,⟨0,[],[]⟩,⟨0,[],[]⟩,[],[],0,[]⟩:Zc))))
noncomputable def Gj (Qf:(Zc→Option Zc)) (a0:Int) (a1:(List Zh)) (s0_:(Int×Int×(List Zh)×(List Zb)×(List Zb))):Option ((Int×Int×(List Zh)×(List Zb)×(List Zb)) ⊕ (Int×(List Zh)×(List Zb)×(List Zb))) :=
 cond (decide (s0_.1 < (a1.length:Int))) (((Y7 a1 s0_.1).bind fun x3=>cond (x3.Kind == 0) ((Kx (⟨s0_.2.2.1,s0_.2.1,s0_.2.2.2.1,s0_.2.2.2.2⟩:Zy) x3.N).bind fun y4=>some (y4.kept,y4.out,y4.gone,y4.come)) (cond (x3.Kind == 1) ((Kh (⟨s0_.2.2.1,s0_.2.1,s0_.2.2.2.1,s0_.2.2.2.2⟩:Zy) x3.L).bind fun y5=>some (y5.kept,y5.out,y5.gone,y5.come)) (cond (x3.Kind == 2) ((Ki (⟨s0_.2.2.1,s0_.2.1,s0_.2.2.2.1,s0_.2.2.2.2⟩:Zy) x3.L).bind fun y6=>some (y6.kept,y6.out,y6.gone,y6.come)) (cond (x3.Kind == 3) ((Qf x3.E).bind fun y7=>(Kw (⟨s0_.2.2.1,s0_.2.1,s0_.2.2.2.1,s0_.2.2.2.2⟩:Zy) a0 y7).bind fun y8=>some (y8.kept,y8.out,y8.gone,y8.come)) (some (s0_.2.1,s0_.2.2.1,s0_.2.2.2.1,s0_.2.2.2.2)))))).bind fun (z1:(Int×(List Zh)×(List Zb)×(List Zb)))=>some (.inl ((IntKind.i64.wrap (s0_.1+1)),z1.1,z1.2.1,z1.2.2.1,z1.2.2.2))) (some (.inr (s0_.2.1,s0_.2.2.1,s0_.2.2.2.1,s0_.2.2.2.2)))
noncomputable def Zfq (Qf:(Zc→Option Zc)) (Uk:(Int→(List Zh)→Option (List Zh))) (a0:Int) (a1:(List Zh)):Option (List Zh) :=
 (Zv (Gj Qf a0 a1) (0,0,([]:List Zh),([]:List Zb),([]:List Zb))).bind fun (z14:(Int×(List Zh)×(List Zb)×(List Zb)))=>(X0 (⟨z14.2.1,z14.1,z14.2.2.1,z14.2.2.2⟩:Zy)).bind fun y16=>some y16.out
noncomputable def X7:Nat→((Zc→Option Zc)×(Int→(List Zh)→Option (List Zh)))
 | 0=>((fun _=>none),(fun _ _=>none))
 | k+1=>(Zgb ((X7 k).1) ((X7 k).2),Zfq ((X7 k).1) ((X7 k).2))
noncomputable def Zir (a0:Zc):Option Zc:=lim fun k=>(X7 k).1 a0
noncomputable def Zaa (a0:Zb):Option Bool :=
 some (cond (a0.Kind != 0) true (decide (0 < (IntKind.i64.wrap ((a0.Words.length:Int)+(a0.Kids.length:Int))))))
noncomputable def Uw (a0:Bool) (a1:Bool) (a2:Bool) (a3:Zc):Option Bool :=
 (cond a0 ((Zaa a3.Old).bind fun y6=>cond y6 (some false) ((Zaa a3.New).bind fun y7=>some (cond (cond (!(cond a0 (cond y6 true y7) false)) (!(cond a1 (decide (0 < (IntKind.i64.wrap ((a3.Words.length:Int)+(a3.Kids.length:Int))))) false)) false) (!(cond a2 (cond (a3.List_ != 0) true (decide (0 < (a3.Ops.length:Int)))) false)) false))) (some (cond (!(cond a1 (decide (0 < (IntKind.i64.wrap ((a3.Words.length:Int)+(a3.Kids.length:Int))))) false)) (!(cond a2 (cond (a3.List_ != 0) true (decide (0 < (a3.Ops.length:Int)))) false)) false))).bind fun (z3:Bool)=>some z3
noncomputable def Uz (a0:(List Zb)) (s0_:Int):Option (Int ⊕ (Unit ⊕ Unit)) :=
 cond (decide (s0_ < (a0.length:Int))) ((Y7 a0 s0_).bind fun x2=>cond (x2.Kind != 1) (some (.inr (.inl ()))) (some (.inl (IntKind.i64.wrap (s0_+1))))) (some (.inr (.inr ())))
noncomputable def Zb5 (a0:(List Zb)):Option Bool :=
 (Zv (Uz a0) 0).bind fun (z5:(Unit ⊕ Unit))=>match z5 with | .inl z5=>some false | .inr z5=>some true
noncomputable def Znk (a0:Int):Option (Int×Bool) :=
 ((some (⟨[0,1,8,16,32,64],rfl⟩:(Arr Int 6)))).bind fun y6=>((some (⟨[0,0,0,0,0,0],rfl⟩:(Arr Int 6)))).bind fun y8=>cond (cond (decide (a0 < 0)) true (decide (6≤a0))) (some (0,false)) ((Y7 y6.1 a0).bind fun x12=>some (x12,true))
noncomputable def Zi1 (a0:Int) (a1:Int):Option Bool :=
 (Znk a0).bind fun y2=>(cond y2.2 ((Zm9 (0≤y2.1)).bind fun u6=>some (cond y2.2 ((Int.fdiv a1 (2 ^ min (Int.toNat y2.1) 64)) == 0) false)) (some false)).bind fun (z4:Bool)=>some z4
noncomputable def Zhl (Xt:(Zb→Option Bool)) (Xs:(Zb→Int→Option Bool)) (Xa:((List Zb)→Int→Option Bool)) (Xe:((List Zb)→Int→Option Bool)) (a0:Zb):Option Bool :=
 cond (a0.Kind == 10) (some (cond ((a0.Words.length:Int) == 1) ((a0.Kids.length:Int) == 0) false)) ((Xs a0 64).bind fun y2=>some y2)
noncomputable def Zhm (Xt:(Zb→Option Bool)) (Xs:(Zb→Int→Option Bool)) (Xa:((List Zb)→Int→Option Bool)) (Xe:((List Zb)→Int→Option Bool)) (a0:Zb) (a1:Int):Option Bool :=
 cond (a0.Kind == 0) (some (cond ((a0.Words.length:Int) == 0) ((a0.Kids.length:Int) == 0) false)) (cond (a1 == 0) (some false) (cond (a0.Kind == 1) ((cond (decide ((a0.Words.length:Int) < 65536)) (cond (decide ((a0.Kids.length:Int) < 65536)) ((Xa a0.Kids (IntKind.i64.wrap (a1 - 1))).bind fun y4=>some (cond (cond (decide ((a0.Words.length:Int) < 65536)) (decide ((a0.Kids.length:Int) < 65536)) false) y4 false)) (some false)) (some false)).bind fun (z2:Bool)=>some z2) ((Uy a0.Kind).bind fun y8=>cond (cond (cond (!y8) true (decide (0 < (a0.Words.length:Int)))) true (decide (1048576≤(a0.Kids.length:Int)))) (some false) (cond (a0.Kind == 8) ((Xa a0.Kids (IntKind.i64.wrap (a1 - 1))).bind fun y10=>some y10) (cond (a0.Kind == 9) (((Zb5 a0.Kids).bind fun y16=>cond y16 ((Xa a0.Kids (IntKind.i64.wrap (a1 - 1))).bind fun y17=>some (cond y16 y17 false)) (some false)).bind fun (z13:Bool)=>some z13) ((Xe a0.Kids (IntKind.i64.wrap (a0.Kind - 2))).bind fun y20=>some y20))))))
noncomputable def Zaj (Xs:(Zb→Int→Option Bool)) (a0:(List Zb)) (a1:Int) (s0_:Int):Option (Int ⊕ (Unit ⊕ Unit)) :=
 cond (decide (s0_ < (a0.length:Int))) ((Y7 a0 s0_).bind fun x2=>(Xs x2 a1).bind fun y4=>cond (!y4) (some (.inr (.inl ()))) (some (.inl (IntKind.i64.wrap (s0_+1))))) (some (.inr (.inr ())))
noncomputable def Zd4 (Xt:(Zb→Option Bool)) (Xs:(Zb→Int→Option Bool)) (Xa:((List Zb)→Int→Option Bool)) (Xe:((List Zb)→Int→Option Bool)) (a0:(List Zb)) (a1:Int):Option Bool :=
 (Zv (Zaj Xs a0 a1) 0).bind fun (z7:(Unit ⊕ Unit))=>match z7 with | .inl z7=>some false | .inr z7=>some true
noncomputable def Zai (Xt:(Zb→Option Bool)) (a0:(List Zb)) (a1:Int) (s0_:Int):Option (Int ⊕ (Unit ⊕ Unit)) :=
 cond (decide (s0_ < (a0.length:Int))) ((Y7 a0 s0_).bind fun x2=>(cond (x2.Kind != 10) (some true) ((Xt x2).bind fun y10=>cond y10 ((Y7 x2.Words 0).bind fun x11=>(Zi1 a1 x11).bind fun y12=>some (cond (cond (x2.Kind != 10) true (!y10)) true (!y12))) (some true))).bind fun (z6:Bool)=>cond z6 (some (.inr (.inl ()))) (some (.inl (IntKind.i64.wrap (s0_+1))))) (some (.inr (.inr ())))
noncomputable def Zd3 (Xt:(Zb→Option Bool)) (Xs:(Zb→Int→Option Bool)) (Xa:((List Zb)→Int→Option Bool)) (Xe:((List Zb)→Int→Option Bool)) (a0:(List Zb)) (a1:Int):Option Bool :=
 (Zv (Zai Xt a0 a1) 0).bind fun (z17:(Unit ⊕ Unit))=>match z17 with | .inl z17=>some false | .inr z17=>some true
noncomputable def Z0:Nat→((Zb→Option Bool)×(Zb→Int→Option Bool)×((List Zb)→Int→Option Bool)×((List Zb)→Int→Option Bool))
 | 0=>((fun _=>none),(fun _ _=>none),(fun _ _=>none),(fun _ _=>none))
 | k+1=>(Zhl ((Z0 k).1) ((Z0 k).2.1) ((Z0 k).2.2.1) ((Z0 k).2.2.2),Zhm ((Z0 k).1) ((Z0 k).2.1) ((Z0 k).2.2.1) ((Z0 k).2.2.2),Zd4 ((Z0 k).1) ((Z0 k).2.1) ((Z0 k).2.2.1) ((Z0 k).2.2.2),Zd3 ((Z0 k).1) ((Z0 k).2.1) ((Z0 k).2.2.1) ((Z0 k).2.2.2))
noncomputable def Zjr (a0:Zb):Option Bool:=lim fun k=>(Z0 k).1 a0
noncomputable def Zfw (a0:Zb):Option Bool :=
 (cond (a0.Kind != 10) ((Zjr a0).bind fun y4=>some (cond (a0.Kind != 10) y4 false)) (some false)).bind fun (z2:Bool)=>some z2
noncomputable def Zff (a0:Int) (s0_:(Int×Int)):Option ((Int×Int) ⊕ Int) :=
 cond (decide (s0_.2 < 8)) (((Zm9 (0≤s0_.2)).bind fun u3=>cond ((IntKind.u8.wrap (Zha .u8 (Int.fdiv a0 (2 ^ min (Int.toNat s0_.2) 8)) 1)) == 1) ((Zm9 (0≤(IntKind.i64.wrap (8 * s0_.2)))).bind fun u4=>some (IntKind.u64.wrap (Z0g .u64 s0_.1 (IntKind.u64.wrap (255 * 2 ^ min (Int.toNat (IntKind.i64.wrap (8 * s0_.2))) 64))))) (some s0_.1)).bind fun (z1:Int)=>some (.inl (z1,(IntKind.i64.wrap (s0_.2+1))))) (some (.inr s0_.1))
noncomputable def Zb6 (a0:Int):Option Int :=
 (Zv (Zff a0) (0,0)).bind fun (z7:Int)=>some z7
noncomputable def Uv (a0:(List Zt)) (s0_:(Int×Int)):Option ((Int×Int) ⊕ (Unit ⊕ Unit)) :=
 cond (decide (s0_.2 < (a0.length:Int))) ((Y7 a0 s0_.2).bind fun x2=>(Zb6 x2.Mask).bind fun y4=>cond (cond (cond (cond (cond (decide (x2.At≤s0_.1)) true (decide (65534 < x2.At))) true (x2.Mask == 0)) true ((IntKind.u64.wrap (Zha .u64 x2.Old (IntKind.u64.wrap (Ziz .u64 (if IntKind.signed .u64=true then -1 else IntKind.max .u64) y4)))) != 0)) true ((IntKind.u64.wrap (Zha .u64 x2.New (IntKind.u64.wrap (Ziz .u64 (if IntKind.signed .u64=true then -1 else IntKind.max .u64) y4)))) != 0)) (some (.inr (.inl ()))) (some (.inl (x2.At,(IntKind.i64.wrap (s0_.2+1)))))) (some (.inr (.inr ())))
noncomputable def Zb3 (a0:(List Zt)):Option Bool :=
 (Zv (Uv a0) ((-1),0)).bind fun (z7:(Unit ⊕ Unit))=>match z7 with | .inl z7=>some false | .inr z7=>some true
noncomputable def Zd8 (a0:Int) (a1:Zc):Option Bool :=
 cond (a0 == 8) (some (a1.Kind != 0)) (cond (a0 == 9) (some (cond (a1.Kind == 2) true (cond (cond (a1.Kind == 1) (a1.Old.Kind == 1) false) (a1.New.Kind == 1) false))) (some false))
noncomputable def Zdd (a0:Zh):Option Int :=
 cond (a0.Kind == 0) (some (if 1048576 < (if a0.N < 0 then 0 else a0.N) then 1048576 else (if a0.N < 0 then 0 else a0.N))) ((cond (a0.Kind == 1) (some (a0.Kind == 1)) (some (a0.Kind == 2))).bind fun (z1:Bool)=>cond z1 (some (a0.L.length:Int)) (cond (a0.Kind == 3) (some 1) (some 0)))
noncomputable def Zb2 (a0:Zc) (s0_:(Int×Int×Int)):Option ((Int×Int×Int) ⊕ (Int×Int)) :=
 cond (decide (s0_.2.2 < (a0.Ops.length:Int))) (((Y7 a0.Ops s0_.2.2).bind fun x3=>(cond (x3.Kind != 2) ((Zdd x3).bind fun y5=>some (if 1048576 < (IntKind.i64.wrap (s0_.1+y5)) then 1048576 else (IntKind.i64.wrap (s0_.1+y5)))) (some s0_.1)).bind fun (z4:Int)=>cond (x3.Kind != 1) ((Zdd x3).bind fun y7=>some (z4,(if 1048576 < (IntKind.i64.wrap (s0_.2.1+y7)) then 1048576 else (IntKind.i64.wrap (s0_.2.1+y7))))) (some (z4,s0_.2.1))).bind fun (z1:(Int×Int))=>some (.inl (z1.1,z1.2,(IntKind.i64.wrap (s0_.2.2+1))))) (some (.inr (s0_.1,s0_.2.1)))
noncomputable def Zfc (a0:Zc):Option (Int×Int) :=
 (Zv (Zb2 a0) (0,0,0)).bind fun (z10:(Int×Int))=>some (z10.1,z10.2)
noncomputable def Zhi (Y0:(Zc→Option Bool)) (Yu:(Zc→Int→Option Bool)) (Yb:((List Zk)→Int→Option Bool)) (Ye:(Zc→Int→Option Bool)) (Yh:(Int→Zh→Int→Option Bool)) (Z8:(Bool→Bool→Bool→Zh→Option Bool)) (a0:Zc):Option Bool :=
 (Yu a0 64).bind fun y2=>some y2
noncomputable def Zhj (Y0:(Zc→Option Bool)) (Yu:(Zc→Int→Option Bool)) (Yb:((List Zk)→Int→Option Bool)) (Ye:(Zc→Int→Option Bool)) (Yh:(Int→Zh→Int→Option Bool)) (Z8:(Bool→Bool→Bool→Zh→Option Bool)) (a0:Zc) (a1:Int):Option Bool :=
 cond (a1 == 0) (some false) (cond (a0.Kind == 0) ((Uw true true true a0).bind fun y2=>some y2) (cond (a0.Kind == 1) (((Uw false true true a0).bind fun y10=>cond y10 ((Zfw a0.Old).bind fun y11=>cond y11 ((Zfw a0.New).bind fun y12=>some (cond (cond y10 y11 false) y12 false)) (some false)) (some false)).bind fun (z6:Bool)=>some z6) (cond (a0.Kind == 2) (((Uw true false true a0).bind fun y22=>cond y22 ((Zb3 a0.Words).bind fun y23=>cond y23 ((Yb a0.Kids (IntKind.i64.wrap (a1 - 1))).bind fun y24=>some (cond (cond y22 y23 false) y24 false)) (some false)) (some false)).bind fun (z18:Bool)=>some z18) (cond (a0.Kind == 3) (((Uw true true false a0).bind fun y32=>cond y32 ((Ye a0 (IntKind.i64.wrap (a1 - 1))).bind fun y33=>some (cond y32 y33 false)) (some false)).bind fun (z29:Bool)=>some z29) (some false)))))
noncomputable def Gs (Yu:(Zc→Int→Option Bool)) (a0:(List Zk)) (a1:Int) (s0_:(Int×Int)):Option ((Int×Int) ⊕ (Unit ⊕ Unit)) :=
 cond (decide (s0_.2 < (a0.length:Int))) ((Y7 a0 s0_.2).bind fun x2=>(cond (decide (x2.At≤s0_.1)) (some true) (cond (decide (65534 < x2.At)) (some true) (cond (x2.E.Kind == 0) (some true) ((Yu x2.E a1).bind fun y6=>some (cond (cond (cond (decide (x2.At≤s0_.1)) true (decide (65534 < x2.At))) true (x2.E.Kind == 0)) true (!y6)))))).bind fun (z4:Bool)=>cond z4 (some (.inr (.inl ()))) (some (.inl (x2.At,(IntKind.i64.wrap (s0_.2+1)))))) (some (.inr (.inr ())))
noncomputable def Zc5 (Y0:(Zc→Option Bool)) (Yu:(Zc→Int→Option Bool)) (Yb:((List Zk)→Int→Option Bool)) (Ye:(Zc→Int→Option Bool)) (Yh:(Int→Zh→Int→Option Bool)) (Z8:(Bool→Bool→Bool→Zh→Option Bool)) (a0:(List Zk)) (a1:Int):Option Bool :=
 (Zv (Gs Yu a0 a1) ((-1),0)).bind fun (z12:(Unit ⊕ Unit))=>match z12 with | .inl z12=>some false | .inr z12=>some true
noncomputable def Zah (Yh:(Int→Zh→Int→Option Bool)) (a0:Zc) (a1:Int) (s0_:Int):Option (Int ⊕ (Unit ⊕ Unit)) :=
 cond (decide (s0_ < (a0.Ops.length:Int))) ((Y7 a0.Ops s0_).bind fun x4=>(Yh a0.List_ x4 a1).bind fun y6=>cond (!y6) (some (.inr (.inl ()))) (some (.inl (IntKind.i64.wrap (s0_+1))))) (some (.inr (.inr ())))
noncomputable def Zd2 (Y0:(Zc→Option Bool)) (Yu:(Zc→Int→Option Bool)) (Yb:((List Zk)→Int→Option Bool)) (Ye:(Zc→Int→Option Bool)) (Yh:(Int→Zh→Int→Option Bool)) (Z8:(Bool→Bool→Bool→Zh→Option Bool)) (a0:Zc) (a1:Int):Option Bool :=
 (Uy a0.List_).bind fun y2=>cond (!y2) (some false) ((Zv (Zah Yh a0 a1) 0).bind fun (z9:(Unit ⊕ Unit))=>match z9 with | .inl z9=>some false | .inr z9=>(Zfc a0).bind fun y11=>some (cond (decide (y11.1 < 1048576)) (decide (y11.2 < 1048576)) false))
noncomputable def Ze2 (Y0:(Zc→Option Bool)) (Yu:(Zc→Int→Option Bool)) (Yb:((List Zk)→Int→Option Bool)) (Ye:(Zc→Int→Option Bool)) (Yh:(Int→Zh→Int→Option Bool)) (Z8:(Bool→Bool→Bool→Zh→Option Bool)) (a0:Int) (a1:Zh) (a2:Int):Option Bool :=
 (cond (a1.Kind == 0) ((Z8 false true true a1).bind fun y3=>some (.inr (.inl (cond (cond y3 (decide (1≤a1.N)) false) (decide (a1.N≤1048576)) false)))) (cond (a1.Kind == 1) (some (.inl ())) (cond (a1.Kind == 2) (some (.inl ())) (cond (a1.Kind == 3) (some (.inr (.inr (.inl ())))) (some (.inr (.inr (.inr ())))))))).bind fun (z1:(Unit ⊕ (Bool ⊕ (Unit ⊕ Unit))))=>match z1 with | .inl z1=>((Z8 true false true a1).bind fun y13=>cond y13 (cond (decide (0 < (a1.L.length:Int))) ((Zjr (⟨a0,[],a1.L⟩:Zb)).bind fun y14=>some (cond (cond y13 (decide (0 < (a1.L.length:Int))) false) y14 false)) (some false)) (some false)).bind fun (z10:Bool)=>some z10 | .inr z1=>match z1 with | .inl z1=>some z1 | .inr z1=>match z1 with | .inl z1=>((Z8 true true false a1).bind fun y24=>cond y24 ((Zd8 a0 a1.E).bind fun y25=>cond y25 ((Yu a1.E a2).bind fun y26=>some (cond (cond y24 y25 false) y26 false)) (some false)) (some false)).bind fun (z20:Bool)=>some z20 | .inr z1=>some false
noncomputable def Zc6 (Y0:(Zc→Option Bool)) (Yu:(Zc→Int→Option Bool)) (Yb:((List Zk)→Int→Option Bool)) (Ye:(Zc→Int→Option Bool)) (Yh:(Int→Zh→Int→Option Bool)) (Z8:(Bool→Bool→Bool→Zh→Option Bool)) (a0:Bool) (a1:Bool) (a2:Bool) (a3:Zh):Option Bool :=
 (cond a0 (cond (a3.N != 0) (some false) (cond a1 (cond (decide (0 < (a3.L.length:Int))) (some false) (cond a2 (cond (a3.E.Kind != 0) (some (cond (cond (!(cond a0 (a3.N != 0) false)) (!(cond a1 (decide (0 < (a3.L.length:Int))) false)) false) (!(cond a2 true false)) false)) ((Y0 a3.E).bind fun y10=>some (cond (cond (!(cond a0 (a3.N != 0) false)) (!(cond a1 (decide (0 < (a3.L.length:Int))) false)) false) (!(cond a2 (cond (a3.E.Kind != 0) true (!y10)) false)) false))) (some (cond (cond (!(cond a0 (a3.N != 0) false)) (!(cond a1 (decide (0 < (a3.L.length:Int))) false)) false) true false)))) (cond a2 (cond (a3.E.Kind != 0) (some (cond (cond (!(cond a0 (a3.N != 0) false)) (!(cond a1 (decide (0 < (a3.L.length:Int))) false)) false) (!(cond a2 true false)) false)) ((Y0 a3.E).bind fun y11=>some (cond (cond (!(cond a0 (a3.N != 0) false)) (!(cond a1 (decide (0 < (a3.L.length:Int))) false)) false) (!(cond a2 (cond (a3.E.Kind != 0) true (!y11)) false)) false))) (some (cond (cond (!(cond a0 (a3.N != 0) false)) (!(cond a1 (decide (0 < (a3.L.length:Int))) false)) false) true false))))) (cond a1 (cond (decide (0 < (a3.L.length:Int))) (some false) (cond a2 (cond (a3.E.Kind != 0) (some (cond (cond (!(cond a0 (a3.N != 0) false)) (!(cond a1 (decide (0 < (a3.L.length:Int))) false)) false) (!(cond a2 true false)) false)) ((Y0 a3.E).bind fun y12=>some (cond (cond (!(cond a0 (a3.N != 0) false)) (!(cond a1 (decide (0 < (a3.L.length:Int))) false)) false) (!(cond a2 (cond (a3.E.Kind != 0) true (!y12)) false)) false))) (some (cond (cond (!(cond a0 (a3.N != 0) false)) (!(cond a1 (decide (0 < (a3.L.length:Int))) false)) false) true false)))) (cond a2 (cond (a3.E.Kind != 0) (some (cond (cond (!(cond a0 (a3.N != 0) false)) (!(cond a1 (decide (0 < (a3.L.length:Int))) false)) false) (!(cond a2 true false)) false)) ((Y0 a3.E).bind fun y13=>some (cond (cond (!(cond a0 (a3.N != 0) false)) (!(cond a1 (decide (0 < (a3.L.length:Int))) false)) false) (!(cond a2 (cond (a3.E.Kind != 0) true (!y13)) false)) false))) (some (cond (cond (!(cond a0 (a3.N != 0) false)) (!(cond a1 (decide (0 < (a3.L.length:Int))) false)) false) true false))))).bind fun (z5:Bool)=>some z5
noncomputable def Zp:Nat→((Zc→Option Bool)×(Zc→Int→Option Bool)×((List Zk)→Int→Option Bool)×(Zc→Int→Option Bool)×(Int→Zh→Int→Option Bool)×(Bool→Bool→Bool→Zh→Option Bool))
 | 0=>((fun _=>none),(fun _ _=>none),(fun _ _=>none),(fun _ _=>none),(fun _ _ _=>none),(fun _ _ _ _=>none))
 | k+1=>(Zhi ((Zp k).1) ((Zp k).2.1) ((Zp k).2.2.1) ((Zp k).2.2.2.1) ((Zp k).2.2.2.2.1) ((Zp k).2.2.2.2.2),Zhj ((Zp k).1) ((Zp k).2.1) ((Zp k).2.2.1) ((Zp k).2.2.2.1) ((Zp k).2.2.2.2.1) ((Zp k).2.2.2.2.2),Zc5 ((Zp k).1) ((Zp k).2.1) ((Zp k).2.2.1) ((Zp k).2.2.2.1) ((Zp k).2.2.2.2.1) ((Zp k).2.2.2.2.2),Zd2 ((Zp k).1) ((Zp k).2.1) ((Zp k).2.2.1) ((Zp k).2.2.2.1) ((Zp k).2.2.2.2.1) ((Zp k).2.2.2.2.2),Ze2 ((Zp k).1) ((Zp k).2.1) ((Zp k).2.2.1) ((Zp k).2.2.2.1) ((Zp k).2.2.2.2.1) ((Zp k).2.2.2.2.2),Zc6 ((Zp k).1) ((Zp k).2.1) ((Zp k).2.2.1) ((Zp k).2.2.2.1) ((Zp k).2.2.2.2.1) ((Zp k).2.2.2.2.2))
noncomputable def Zni (a0:Zc):Option Bool:=lim fun k=>(Zp k).1 a0
noncomputable def Zb4 (a0:Zb) (a1:(List Zx)) (a2:Zc):Option (Zc×Bool) :=
 (Zgt a0 a1 a2).bind fun y2=>cond (!y2.2) (some ((⟨0,⟨0,[],[]⟩,⟨0,[],[]⟩,[],[],0,[]⟩:Zc),false)) ((Zir y2.1).bind fun y4=>(Zni y4).bind fun y6=>cond (!y6) (some ((⟨0,⟨0,[],[]⟩,⟨0,[],[]⟩,[],[],0,[]⟩:Zc),false)) (some (y4,true)))
noncomputable def Zdu (a0:Zk) (a1:Zx):Option Bool :=
 some (a0.At == a1.At)
noncomputable def Yf (a0:(List Zk)) (a1_0:Zx) (s0_:Int):Option (Int ⊕ (Int ⊕ Unit)) :=
 cond (decide (s0_ < (a0.length:Int))) ((Y7 a0 s0_).bind fun x3=>(Zdu x3 a1_0).bind fun y4=>cond y4 (some (.inr (.inl s0_))) (some (.inl (IntKind.i64.wrap (s0_+1))))) (some (.inr (.inr ())))
noncomputable def Y8 (a0:(List Zk)) (a1_0:Zx):Option Int :=
 (Zv (Yf a0 a1_0) 0).bind fun (z7:(Int ⊕ Unit))=>match z7 with | .inl z7=>some z7 | .inr z7=>some (-1)
noncomputable def Gf (a0:(List Zh)) (a1:Int) (s0_:(Int×Int×Int)):Option ((Int×Int×Int) ⊕ ((Int×Bool×Int×Int×(List Int)×(List Zb)×Int×(List Int)×(List Zb)×(List Zt)×(List Zk)×Int×(List Zh)) ⊕ Unit)) :=
 cond (decide (s0_.2.2 < (a0.length:Int))) (((Y7 a0 s0_.2.2).bind fun x3=>(cond (x3.Kind == 2) (some (.inr (.inl ()))) (cond (decide (a1 < (IntKind.i64.wrap (s0_.1+(if (if 1 < x3.N then x3.N else 1) < (x3.L.length:Int) then (x3.L.length:Int) else (if 1 < x3.N then x3.N else 1)))))) (some (.inr (.inr ()))) (cond (x3.Kind != 1) (some (.inl (IntKind.i64.wrap (s0_.2.1+(if (if 1 < x3.N then x3.N else 1) < (x3.L.length:Int) then (x3.L.length:Int) else (if 1 < x3.N then x3.N else 1)))))) (some (.inl s0_.2.1))))).bind fun (z4:(Int ⊕ (Unit ⊕ Unit)))=>match z4 with | .inl z4=>some (.inl ((IntKind.i64.wrap (s0_.1+(if (if 1 < x3.N then x3.N else 1) < (x3.L.length:Int) then (x3.L.length:Int) else (if 1 < x3.N then x3.N else 1)))),z4)) | .inr z4=>match z4 with | .inl z4=>some (.inl (s0_.1,(IntKind.i64.wrap (s0_.2.1+(if (if 1 < x3.N then x3.N else 1) < (x3.L.length:Int) then (x3.L.length:Int) else (if 1 < x3.N then x3.N else 1)))))) | .inr z4=>some (.inr ((x3.Kind != 1),x3.E.Kind,x3.E.Old.Kind,x3.E.Old.Words,x3.E.Old.Kids,x3.E.New.Kind,x3.E.New.Words,x3.E.New.Kids,x3.E.Words,x3.E.Kids,x3.E.List_,x3.E.Ops))).bind fun (z1:((Int×Int) ⊕ (Bool×Int×Int×(List Int)×(List Zb)×Int×(List Int)×(List Zb)×(List Zt)×(List Zk)×Int×(List Zh))))=>match z1 with | .inl z1=>some (.inl (z1.1,z1.2,(IntKind.i64.wrap (s0_.2.2+1)))) | .inr z1=>some (.inr (.inl ((IntKind.i64.wrap ((IntKind.i64.wrap (s0_.2.1+a1)) - s0_.1)),z1.1,z1.2.1,z1.2.2.1,z1.2.2.2.1,z1.2.2.2.2.1,z1.2.2.2.2.2.1,z1.2.2.2.2.2.2.1,z1.2.2.2.2.2.2.2.1,z1.2.2.2.2.2.2.2.2.1,z1.2.2.2.2.2.2.2.2.2.1,z1.2.2.2.2.2.2.2.2.2.2.1,z1.2.2.2.2.2.2.2.2.2.2.2)))) (some (.inr (.inr ())))
noncomputable def Zfd (a0:(List Zh)) (a1:Int):Option (Zc×Int×Bool) :=
 (Zv (Gf a0 a1) (0,0,0)).bind fun (z9:((Int×Bool×Int×Int×(List Int)×(List Zb)×Int×(List Int)×(List Zb)×(List Zt)×(List Zk)×Int×(List Zh)) ⊕ Unit))=>match z9 with | .inl z9=>some ((⟨z9.2.2.1,⟨z9.2.2.2.1,z9.2.2.2.2.1,z9.2.2.2.2.2.1⟩,⟨z9.2.2.2.2.2.2.1,z9.2.2.2.2.2.2.2.1,z9.2.2.2.2.2.2.2.2.1⟩,z9.2.2.2.2.2.2.2.2.2.1,z9.2.2.2.2.2.2.2.2.2.2.1,z9.2.2.2.2.2.2.2.2.2.2.2.1,z9.2.2.2.2.2.2.2.2.2.2.2.2⟩:Zc),z9.1,z9.2.1) | .inr z9=>some ((⟨0,⟨0,[],[]⟩,⟨0,[],[]⟩,[],[],0,[]⟩:Zc),0,false)
noncomputable def Zde (a0:Zc) (a1:Zx):Option (Zc×Int×Bool) :=
 cond (cond (a1.Kind != 0) true (decide (a1.At < 0))) (some ((⟨0,⟨0,[],[]⟩,⟨0,[],[]⟩,[],[],0,[]⟩:Zc),0,false)) (cond (a0.Kind == 0) (some ((⟨0,⟨0,[],[]⟩,⟨0,[],[]⟩,[],[],0,[]⟩:Zc),a1.At,true)) (cond (a0.Kind == 2) ((Y8 a0.Kids a1).bind fun y2=>cond (decide (y2 < 0)) (some ((⟨0,⟨0,[],[]⟩,⟨0,[],[]⟩,[],[],0,[]⟩:Zc),a1.At,true)) ((Y7 a0.Kids y2).bind fun x5=>some (x5.E,a1.At,true))) (cond (a0.Kind == 3) ((Zfd a0.Ops a1.At).bind fun y9=>some (y9.1,y9.2.1,y9.2.2)) (some ((⟨0,⟨0,[],[]⟩,⟨0,[],[]⟩,[],[],0,[]⟩:Zc),0,false)))))
noncomputable def Ge (a1:(List Zx)) (s0_:(Int×Int×Int×(List Int)×(List Zb)×Int×(List Int)×(List Zb)×(List Zt)×(List Zk)×Int×(List Zh)×(List Zx))):Option ((Int×Int×Int×(List Int)×(List Zb)×Int×(List Int)×(List Zb)×(List Zt)×(List Zk)×Int×(List Zh)×(List Zx)) ⊕ (Unit ⊕ (Int×Int×(List Int)×(List Zb)×Int×(List Int)×(List Zb)×(List Zt)×(List Zk)×Int×(List Zh)×(List Zx)))) :=
 cond (decide (s0_.1 < (a1.length:Int))) ((Y7 a1 s0_.1).bind fun x2=>(Zde (⟨s0_.2.1,⟨s0_.2.2.1,s0_.2.2.2.1,s0_.2.2.2.2.1⟩,⟨s0_.2.2.2.2.2.1,s0_.2.2.2.2.2.2.1,s0_.2.2.2.2.2.2.2.1⟩,s0_.2.2.2.2.2.2.2.2.1,s0_.2.2.2.2.2.2.2.2.2.1,s0_.2.2.2.2.2.2.2.2.2.2.1,s0_.2.2.2.2.2.2.2.2.2.2.2.1⟩:Zc) x2).bind fun y4=>cond (!y4.2.2) (some (.inr (.inl ()))) ((Gq 16 s0_.2.2.2.2.2.2.2.2.2.2.2.2 ([(⟨0,y4.2.1⟩:Zx)]:List Zx)).bind fun l5=>some (.inl ((IntKind.i64.wrap (s0_.1+1)),y4.1.Kind,y4.1.Old.Kind,y4.1.Old.Words,y4.1.Old.Kids,y4.1.New.Kind,y4.1.New.Words,y4.1.New.Kids,y4.1.Words,y4.1.Kids,y4.1.List_,y4.1.Ops,l5)))) (some (.inr (.inr (s0_.2.1,s0_.2.2.1,s0_.2.2.2.1,s0_.2.2.2.2.1,s0_.2.2.2.2.2.1,s0_.2.2.2.2.2.2.1,s0_.2.2.2.2.2.2.2.1,s0_.2.2.2.2.2.2.2.2.1,s0_.2.2.2.2.2.2.2.2.2.1,s0_.2.2.2.2.2.2.2.2.2.2.1,s0_.2.2.2.2.2.2.2.2.2.2.2.1,s0_.2.2.2.2.2.2.2.2.2.2.2.2))))
noncomputable def Ux (a0:Zc) (a1:(List Zx)):Option (Zc×(List Zx)×Bool) :=
 (Zv (Ge a1) (0,a0.Kind,a0.Old.Kind,a0.Old.Words,a0.Old.Kids,a0.New.Kind,a0.New.Words,a0.New.Kids,a0.Words,a0.Kids,a0.List_,a0.Ops,([]:List Zx))).bind fun (z8:(Unit ⊕ (Int×Int×(List Int)×(List Zb)×Int×(List Int)×(List Zb)×(List Zt)×(List Zk)×Int×(List Zh)×(List Zx))))=>match z8 with | .inl z8=>some ((⟨0,⟨0,[],[]⟩,⟨0,[],[]⟩,[],[],0,[]⟩:Zc),([]:(List Zx)),false) | .inr z8=>(Zir (⟨z8.1,⟨z8.2.1,z8.2.2.1,z8.2.2.2.1⟩,⟨z8.2.2.2.2.1,z8.2.2.2.2.2.1,z8.2.2.2.2.2.2.1⟩,z8.2.2.2.2.2.2.2.1,z8.2.2.2.2.2.2.2.2.1,z8.2.2.2.2.2.2.2.2.2.1,z8.2.2.2.2.2.2.2.2.2.2.1⟩:Zc)).bind fun y10=>some (y10,z8.2.2.2.2.2.2.2.2.2.2.2,true)
noncomputable def Qe :Option Bool :=
 (Zb4 (⟨8,[],([(⟨0,[],[]⟩:Zb),(⟨1,([1]:List Int),[]⟩:Zb),(⟨0,[],[]⟩:Zb)]:List Zb)⟩:Zb) ([(⟨0,1⟩:Zx)]:List Zx) (⟨2,⟨0,[],[]⟩,⟨0,[],[]⟩,([(⟨0,1,1,2⟩:Zt)]:List Zt),[],0,[]⟩:Zc)).bind fun y2=>(Ux y2.1 ([(⟨0,1⟩:Zx)]:List Zx)).bind fun y4=>(cond y2.2 (cond y4.2.2 (cond (y2.1.Kind == 3) (cond ((y2.1.Ops.length:Int) == 3) ((Y7 y2.1.Ops 1).bind fun x14=>cond (x14.Kind == 3) (cond (y4.1.Kind == 2) (cond ((y4.2.1.length:Int) == 1) ((Y7 y4.2.1 0).bind fun x16=>some (cond (cond (cond (cond (cond (cond (cond y2.2 y4.2.2 false) (y2.1.Kind == 3) false) ((y2.1.Ops.length:Int) == 3) false) (x14.Kind == 3) false) (y4.1.Kind == 2) false) ((y4.2.1.length:Int) == 1) false) (x16.At == 1) false)) (some false)) (some false)) (some false)) (some false)) (some false)) (some false)) (some false)).bind fun (z9:Bool)=>some z9
noncomputable def Qg (a0:(List Int)) (a1:(List Int)) (s0_:Int):Option (Int ⊕ (Unit ⊕ Unit)) :=
 cond (decide (s0_ < (a0.length:Int))) ((Y7 a0 s0_).bind fun x3=>(Y7 a1 s0_).bind fun x4=>cond (x3 != x4) (some (.inr (.inl ()))) (some (.inl (IntKind.i64.wrap (s0_+1))))) (some (.inr (.inr ())))
noncomputable def X4 (a0:(List Int)) (a1:(List Int)):Option Bool :=
 cond ((a0.length:Int) != (a1.length:Int)) (some false) ((Zv (Qg a0 a1) 0).bind fun (z7:(Unit ⊕ Unit))=>match z7 with | .inl z7=>some false | .inr z7=>some true)
noncomputable def Zhk (Kl:(Zb→Zb→Option Bool)) (Zw:((List Zb)→(List Zb)→Option Bool)) (a0:Zb) (a1:Zb):Option Bool :=
 cond (a0.Kind != a1.Kind) (some false) (cond (a0.Kind == 0) (some true) (cond (a0.Kind == 1) (((Ub a0.Words).bind fun y14=>(Ub a1.Words).bind fun y15=>(X4 y14 y15).bind fun y16=>cond y16 ((Gl a0.Kids).bind fun y17=>(Gl a1.Kids).bind fun y18=>(Zw y17 y18).bind fun y19=>some (cond y16 y19 false)) (some false)).bind fun (z7:Bool)=>some z7) (((X4 a0.Words a1.Words).bind fun y26=>cond y26 ((Zw a0.Kids a1.Kids).bind fun y27=>some (cond y26 y27 false)) (some false)).bind fun (z23:Bool)=>some z23)))
noncomputable def Yc (Kl:(Zb→Zb→Option Bool)) (a0:(List Zb)) (a1:(List Zb)) (s0_:Int):Option (Int ⊕ (Unit ⊕ Unit)) :=
 cond (decide (s0_ < (a0.length:Int))) ((Y7 a0 s0_).bind fun x2=>(Y7 a1 s0_).bind fun x4=>(Kl x2 x4).bind fun y6=>cond (!y6) (some (.inr (.inl ()))) (some (.inl (IntKind.i64.wrap (s0_+1))))) (some (.inr (.inr ())))
noncomputable def Yl (Kl:(Zb→Zb→Option Bool)) (Zw:((List Zb)→(List Zb)→Option Bool)) (a0:(List Zb)) (a1:(List Zb)):Option Bool :=
 cond ((a0.length:Int) != (a1.length:Int)) (some false) ((Zv (Yc Kl a0 a1) 0).bind fun (z9:(Unit ⊕ Unit))=>match z9 with | .inl z9=>some false | .inr z9=>some true)
noncomputable def Xz:Nat→((Zb→Zb→Option Bool)×((List Zb)→(List Zb)→Option Bool))
 | 0=>((fun _ _=>none),(fun _ _=>none))
 | k+1=>(Zhk ((Xz k).1) ((Xz k).2),Yl ((Xz k).1) ((Xz k).2))
noncomputable def Znj (a0:Zb) (a1:Zb):Option Bool:=lim fun k=>(Xz k).1 a0 a1
noncomputable def Xp (a0:(List Zb)) (a1:(List Zb)):Option Bool:=lim fun k=>(Xz k).2 a0 a1
noncomputable def Gk (a0:List Int):Option (List Int) :=
 Gq 8 ([]:List Int) a0
noncomputable def Vd (a0:List Zb):Option (List Zb) :=
 Gq 56 ([]:List Zb) a0
noncomputable def Zi0 (a0:Zb) (a1:Int):Option Int :=
 cond (cond (decide (a1 < 0)) true (decide ((a0.Words.length:Int)≤a1))) (some 0) ((Y7 a0.Words a1).bind fun x2=>some x2)
noncomputable def Zbi (a0:Int):Option Bool :=
 some (cond (decide (a0 < 0)) true (decide (65534 < a0)))
noncomputable def Zij (a0:Int) (a1:Int) (a2:Int):Option Int :=
 (Zb6 a2).bind fun y2=>some (IntKind.u64.wrap (Z0g .u64 (IntKind.u64.wrap (Z2i .u64 a0 y2)) (IntKind.u64.wrap (Zha .u64 a1 y2))))
noncomputable def Zaq (a1:Int) (a2:Int) (s0_:(List Int)):Option ((List Int) ⊕ (List Int)) :=
 cond (cond (decide ((s0_.length:Int)≤a1)) (a2 != 0) false) ((Gq 8 s0_ ([0]:List Int)).bind fun l1=>some (.inl l1)) (some (.inr s0_))
noncomputable def Zd7 (a0:Zb) (a1:Int) (a2:Int):Option Zb :=
 (Zv (Zaq a1 a2) a0.Words).bind fun (z3:(List Int))=>cond (decide (a1 < (z3.length:Int))) ((Y7 z3 a1).bind fun x4=>some (⟨a0.Kind,(Zf0 z3 a1 a2),a0.Kids⟩:Zb)) (some (⟨a0.Kind,z3,a0.Kids⟩:Zb))
noncomputable def Zbx (a1:Int) (a2:Zb) (s0_:(List Zb)):Option ((List Zb) ⊕ (List Zb)) :=
 cond (cond (decide ((s0_.length:Int)≤a1)) (a2.Kind != 0) false) ((Gq 56 s0_ ([(⟨0,[],[]⟩:Zb)]:List Zb)).bind fun l1=>(Y7 l1 (s0_.length:Int)).bind fun x2=>some (.inl (s0_++[(⟨0,[],[]⟩:Zb)]))) (some (.inr s0_))
noncomputable def Zfa (a0:Zb) (a1:Int) (a2:Zb):Option Zb :=
 (Zv (Zbx a1 a2) a0.Kids).bind fun (z5:(List Zb))=>cond (decide (a1 < (z5.length:Int))) ((Y7 z5 a1).bind fun x6=>some (⟨a0.Kind,a0.Words,(Zf0 z5 a1 a2)⟩:Zb)) (some (⟨a0.Kind,a0.Words,z5⟩:Zb))
structure Zj where
 left:(List Zb)
 out:(List Zb)
noncomputable def Zbo (Xc:(Zc→Zb→Option (Zb×Bool))) (Yk:(Zc→Zb→Option (Zb×Bool))) (Xm:(Zc→Zb→Option (Zb×Bool))) (Z5:(Zj→Zh→Option (Bool×Zj))) (Z3:(Zj→Zc→Option (Bool×Zj))) (a0:Zc) (a1:Zb):Option (Zb×Bool) :=
 cond (a0.Kind == 0) (some (a1,true)) (cond (a0.Kind == 1) ((Znj a1 a0.Old).bind fun y2=>some (a0.New,y2)) (cond (a0.Kind == 2) ((Yk a0 a1).bind fun y4=>some (y4.1,y4.2)) (cond (a0.Kind == 3) ((Xm a0 a1).bind fun y6=>some (y6.1,y6.2)) (some ((⟨0,[],[]⟩:Zb),false)))))
noncomputable def Je (a0:Zc) (a1:Zb) (s0_:(Int×Int×(List Int)×(List Zb))):Option ((Int×Int×(List Int)×(List Zb)) ⊕ (Unit ⊕ (Int×(List Int)×(List Zb)))) :=
 cond (decide (s0_.1 < (a0.Words.length:Int))) ((Y7 a0.Words s0_.1).bind fun x110=>(Zi0 a1 x110.At).bind fun y112=>((Zbi x110.At).bind fun y118=>cond y118 (some true) ((Zb6 x110.Mask).bind fun y119=>some (cond y118 true ((IntKind.u64.wrap (Zha .u64 (IntKind.u64.wrap (Ziz .u64 y112 x110.Old)) y119)) != 0)))).bind fun (z115:Bool)=>cond z115 (some (.inr (.inl ()))) ((Zij y112 x110.New x110.Mask).bind fun y121=>(Zd7 (⟨s0_.2.1,s0_.2.2.1,s0_.2.2.2⟩:Zb) x110.At y121).bind fun y122=>some (.inl ((IntKind.i64.wrap (s0_.1+1)),y122.Kind,y122.Words,y122.Kids)))) (some (.inr (.inr (s0_.2.1,s0_.2.2.1,s0_.2.2.2))))
noncomputable def Qr (Xc:(Zc→Zb→Option (Zb×Bool))) (a0:Zc) (a1:Zb) (s1_:(Int×Int×(List Int)×(List Zb))):Option ((Int×Int×(List Int)×(List Zb)) ⊕ (Unit ⊕ (Int×(List Int)×(List Zb)))) :=
 cond (decide (s1_.1 < (a0.Kids.length:Int))) ((Y7 a0.Kids s1_.1).bind fun x127=>(Zfe a1 x127.At).bind fun y130=>(Xc x127.E y130).bind fun y131=>(Zbi x127.At).bind fun y133=>cond (cond y133 true (!y131.2)) (some (.inr (.inl ()))) ((Zfa (⟨s1_.2.1,s1_.2.2.1,s1_.2.2.2⟩:Zb) x127.At y131.1).bind fun y134=>some (.inl ((IntKind.i64.wrap (s1_.1+1)),y134.Kind,y134.Words,y134.Kids)))) (some (.inr (.inr (s1_.2.1,s1_.2.2.1,s1_.2.2.2))))
noncomputable def U4 (Xc:(Zc→Zb→Option (Zb×Bool))) (Yk:(Zc→Zb→Option (Zb×Bool))) (Xm:(Zc→Zb→Option (Zb×Bool))) (Z5:(Zj→Zh→Option (Bool×Zj))) (Z3:(Zj→Zc→Option (Bool×Zj))) (a0:Zc) (a1:Zb):Option (Zb×Bool) :=
 cond (a1.Kind != 1) (some ((⟨0,[],[]⟩:Zb),false)) ((Gk a1.Words).bind fun y25=>(Vd a1.Kids).bind fun y61=>(Zv (Je a0 a1) (0,1,y25,y61)).bind fun (z125:(Unit ⊕ (Int×(List Int)×(List Zb))))=>match z125 with | .inl z125=>some ((⟨0,[],[]⟩:Zb),false) | .inr z125=>(Zv (Qr Xc a0 a1) (0,z125.1,z125.2.1,z125.2.2)).bind fun (z137:(Unit ⊕ (Int×(List Int)×(List Zb))))=>match z137 with | .inl z137=>some ((⟨0,[],[]⟩:Zb),false) | .inr z137=>some ((⟨z137.1,z137.2.1,z137.2.2⟩:Zb),true))
noncomputable def Vo (Z5:(Zj→Zh→Option (Bool×Zj))) (a0:Zc) (s0_:(Int×(List Zb)×(List Zb))):Option ((Int×(List Zb)×(List Zb)) ⊕ (Unit ⊕ ((List Zb)×(List Zb)))) :=
 cond (decide (s0_.1 < (a0.Ops.length:Int))) ((Y7 a0.Ops s0_.1).bind fun x7=>(Z5 (⟨s0_.2.1,s0_.2.2⟩:Zj) x7).bind fun y9=>cond (!y9.1) (some (.inr (.inl ()))) (some (.inl ((IntKind.i64.wrap (s0_.1+1)),y9.2.left,y9.2.out)))) (some (.inr (.inr (s0_.2.1,s0_.2.2))))
noncomputable def Zfp (Xc:(Zc→Zb→Option (Zb×Bool))) (Yk:(Zc→Zb→Option (Zb×Bool))) (Xm:(Zc→Zb→Option (Zb×Bool))) (Z5:(Zj→Zh→Option (Bool×Zj))) (Z3:(Zj→Zc→Option (Bool×Zj))) (a0:Zc) (a1:Zb):Option (Zb×Bool) :=
 (cond (a1.Kind != a0.List_) (some true) ((Uy a1.Kind).bind fun y4=>some (cond (a1.Kind != a0.List_) true (!y4)))).bind fun (z2:Bool)=>cond z2 (some ((⟨0,[],[]⟩:Zb),false)) ((Zv (Vo Z5 a0) (0,a1.Kids,([]:List Zb))).bind fun (z12:(Unit ⊕ ((List Zb)×(List Zb))))=>match z12 with | .inl z12=>some ((⟨0,[],[]⟩:Zb),false) | .inr z12=>some ((⟨a1.Kind,[],z12.2⟩:Zb),((z12.1.length:Int) == 0)))
noncomputable def Gr (Xc:(Zc→Zb→Option (Zb×Bool))) (Yk:(Zc→Zb→Option (Zb×Bool))) (Xm:(Zc→Zb→Option (Zb×Bool))) (Z5:(Zj→Zh→Option (Bool×Zj))) (Z3:(Zj→Zc→Option (Bool×Zj))) (a0:Zj) (a1:Zh):Option (Bool×Zj) :=
 cond (a1.Kind == 0) ((cond (decide (a1.N < 0)) (some true) (some (cond (decide (a1.N < 0)) true (decide ((a0.left.length:Int) < a1.N))))).bind fun (z1:Bool)=>cond z1 (some (false,(⟨a0.left,a0.out⟩:Zj))) ((Zf1 a0.left 0 a1.N).bind fun l5=>(Gq 56 a0.out l5).bind fun l6=>(Zf1 a0.left a1.N (a0.left.length:Int)).bind fun l8=>some (true,(⟨l8,l6⟩:Zj)))) (cond (a1.Kind == 1) ((cond (decide ((a0.left.length:Int) < (a1.L.length:Int))) (some true) ((Zf1 a0.left 0 (a1.L.length:Int)).bind fun l15=>(Xp l15 a1.L).bind fun y16=>some (cond (decide ((a0.left.length:Int) < (a1.L.length:Int))) true (!y16)))).bind fun (z12:Bool)=>cond z12 (some (false,(⟨a0.left,a0.out⟩:Zj))) ((Zf1 a0.left (a1.L.length:Int) (a0.left.length:Int)).bind fun l19=>some (true,(⟨l19,a0.out⟩:Zj)))) (cond (a1.Kind == 2) ((Gq 56 a0.out a1.L).bind fun l22=>some (true,(⟨a0.left,l22⟩:Zj))) (cond (a1.Kind == 3) ((Z3 (⟨a0.left,a0.out⟩:Zj) a1.E).bind fun y24=>some (y24.1,(⟨y24.2.left,y24.2.out⟩:Zj))) (some (false,(⟨a0.left,a0.out⟩:Zj))))))
noncomputable def K9 (Xc:(Zc→Zb→Option (Zb×Bool))) (Yk:(Zc→Zb→Option (Zb×Bool))) (Xm:(Zc→Zb→Option (Zb×Bool))) (Z5:(Zj→Zh→Option (Bool×Zj))) (Z3:(Zj→Zc→Option (Bool×Zj))) (a0:Zj) (a1:Zc):Option (Bool×Zj) :=
 cond ((a0.left.length:Int) == 0) (some (false,(⟨a0.left,a0.out⟩:Zj))) ((Y7 a0.left 0).bind fun x3=>(Xc a1 x3).bind fun y4=>(Gq 56 a0.out ([(⟨0,[],[]⟩:Zb)]:List Zb)).bind fun l8=>(Y7 l8 (a0.out.length:Int)).bind fun x9=>(Zf1 a0.left 1 (a0.left.length:Int)).bind fun l12=>some (y4.2,(⟨l12,(a0.out++[y4.1])⟩:Zj)))
noncomputable def Zs:Nat→((Zc→Zb→Option (Zb×Bool))×(Zc→Zb→Option (Zb×Bool))×(Zc→Zb→Option (Zb×Bool))×(Zj→Zh→Option (Bool×Zj))×(Zj→Zc→Option (Bool×Zj)))
 | 0=>((fun _ _=>none),(fun _ _=>none),(fun _ _=>none),(fun _ _=>none),(fun _ _=>none))
 | k+1=>(Zbo ((Zs k).1) ((Zs k).2.1) ((Zs k).2.2.1) ((Zs k).2.2.2.1) ((Zs k).2.2.2.2),U4 ((Zs k).1) ((Zs k).2.1) ((Zs k).2.2.1) ((Zs k).2.2.2.1) ((Zs k).2.2.2.2),Zfp ((Zs k).1) ((Zs k).2.1) ((Zs k).2.2.1) ((Zs k).2.2.2.1) ((Zs k).2.2.2.2),Gr ((Zs k).1) ((Zs k).2.1) ((Zs k).2.2.1) ((Zs k).2.2.2.1) ((Zs k).2.2.2.2),K9 ((Zs k).1) ((Zs k).2.1) ((Zs k).2.2.1) ((Zs k).2.2.2.1) ((Zs k).2.2.2.2))
noncomputable def Znh (a0:Zc) (a1:Zb):Option (Zb×Bool):=lim fun k=>(Zs k).1 a0 a1
noncomputable def Zhx (a0:Zc) (a1:Zb):Option (Zb×Bool) :=
 (Znh a0 a1).bind fun y2=>cond (!y2.2) (some ((⟨0,[],[]⟩:Zb),false)) ((Zdl y2.1).bind fun y4=>some (y4,true))
noncomputable def Uu (a0:(List Int)) (s0_:Int):Option (Int ⊕ Int) :=
 (cond (decide (0 < s0_)) ((Y7 a0 (IntKind.i64.wrap (s0_ - 1))).bind fun x4=>some (cond (decide (0 < s0_)) (x4 == 0) false)) (some false)).bind fun (z2:Bool)=>cond z2 (some (.inl (IntKind.i64.wrap (s0_ - 1)))) (some (.inr s0_))
noncomputable def Zb0 (a0:(List Int)):Option (List Int) :=
 (Zv (Uu a0) (a0.length:Int)).bind fun (z7:Int)=>(Zf1 a0 0 z7).bind fun l10=>(Gq 8 ([]:List Int) l10).bind fun l11=>some l11
noncomputable def Jf (J4:(Zb→Option Zb)) (a0:Zb) (s0_:(Int×Int×(List Zb))):Option ((Int×Int×(List Zb)) ⊕ (Int×(List Zb))) :=
 cond (decide (s0_.2.1 < (a0.Kids.length:Int))) (((Y7 a0.Kids s0_.2.1).bind fun x4=>(J4 x4).bind fun y5=>(Gq 56 s0_.2.2 ([y5]:List Zb)).bind fun l7=>cond (y5.Kind != 0) (some ((IntKind.i64.wrap (s0_.2.1+1)),l7)) (some (s0_.1,l7))).bind fun (z1:(Int×(List Zb)))=>some (.inl (z1.1,(IntKind.i64.wrap (s0_.2.1+1)),z1.2))) (some (.inr (s0_.1,s0_.2.2)))
noncomputable def Zbp (J4:(Zb→Option Zb)) (a0:Zb):Option Zb :=
 cond (a0.Kind == 0) (some (⟨0,[],[]⟩:Zb)) ((Zv (Jf J4 a0) (0,0,([]:List Zb))).bind fun (z10:(Int×(List Zb)))=>cond (a0.Kind == 1) ((Zb0 a0.Words).bind fun y14=>(Zf1 z10.2 0 z10.1).bind fun l15=>some (⟨1,y14,l15⟩:Zb)) ((Gq 8 ([]:List Int) a0.Words).bind fun l17=>some (⟨a0.Kind,l17,z10.2⟩:Zb)))
noncomputable def Qd:Nat→(Zb→Option Zb)
 | 0=>(fun _=>none)
 | k+1=>Zbp ((Qd k))
noncomputable def U7 (a0:Zb):Option Zb:=lim fun k=>(Qd k) a0
noncomputable def V5 (Ui:(Zb→(List Zx)→Option (Zb×Bool))) (a0:Zb) (a1:(List Zx)):Option (Zb×Bool) :=
 cond ((a1.length:Int) == 0) ((U7 a0).bind fun y2=>some (y2,true)) ((Y7 a1 0).bind fun x4=>cond (cond (decide (x4.At < 0)) true (cond (a0.Kind == 1) (decide (65535≤x4.At)) false)) (some ((⟨0,[],[]⟩:Zb),false)) ((cond (x4.Kind == 0) (cond (decide (x4.At < (a0.Kids.length:Int))) ((Y7 a0.Kids x4.At).bind fun x9=>(Zf1 a1 1 (a1.length:Int)).bind fun l10=>(Ui x9 l10).bind fun y11=>some (.inr (y11.2,y11.1.Kind,y11.1.Words,y11.1.Kids))) (cond (a0.Kind == 1) ((Zf1 a1 1 (a1.length:Int)).bind fun l14=>(Ui (⟨0,[],[]⟩:Zb) l14).bind fun y15=>some (.inr (y15.2,y15.1.Kind,y15.1.Words,y15.1.Kids))) (some (.inl ())))) (cond (x4.Kind == 1) (cond (cond ((a1.length:Int) == 1) (a0.Kind == 1) false) (((cond (decide (x4.At < (a0.Words.length:Int))) ((Y7 a0.Words x4.At).bind fun x22=>some (cond (decide (x4.At < (a0.Words.length:Int))) (x22 != 0) false)) (some false)).bind fun (z20:Bool)=>cond z20 ((Y7 a0.Words x4.At).bind fun x24=>some ([x24]:List Int)) (some ([]:List Int))).bind fun (z18:(List Int))=>some (.inr (true,1,z18,([]:(List Zb))))) (some (.inl ()))) (cond (x4.Kind == 2) (cond (cond (cond ((a1.length:Int) == 1) (cond (decide (2≤a0.Kind)) (decide (a0.Kind≤9)) false) false) (decide (x4.At≤(a0.Kids.length:Int))) false) (some (.inr (true,a0.Kind,([]:(List Int)),([]:(List Zb))))) (some (.inl ()))) (some (.inl ()))))).bind fun (z5:(Unit ⊕ (Bool×Int×(List Int)×(List Zb))))=>match z5 with | .inl z5=>some ((⟨0,[],[]⟩:Zb),false) | .inr z5=>some ((⟨z5.2.1,z5.2.2.1,z5.2.2.2⟩:Zb),z5.1)))
noncomputable def Vb:Nat→(Zb→(List Zx)→Option (Zb×Bool))
 | 0=>(fun _ _=>none)
 | k+1=>V5 ((Vb k))
noncomputable def Zfv (a0:Zb) (a1:(List Zx)):Option (Zb×Bool):=lim fun k=>(Vb k) a0 a1
noncomputable def Ut (a0:(List Int)) (a1:(List Int)) (s0_:Int):Option (Int ⊕ (Unit ⊕ Unit)) :=
 cond (decide (s0_ < (a0.length:Int))) ((Y7 a0 s0_).bind fun x3=>(Y7 a1 s0_).bind fun x4=>cond (x3 != x4) (some (.inr (.inl ()))) (some (.inl (IntKind.i64.wrap (s0_+1))))) (some (.inr (.inr ())))
noncomputable def Zbz (a0:(List Int)) (a1:(List Int)):Option Bool :=
 cond ((a0.length:Int) != (a1.length:Int)) (some false) ((Zv (Ut a0 a1) 0).bind fun (z7:(Unit ⊕ Unit))=>match z7 with | .inl z7=>some false | .inr z7=>some true)
noncomputable def Um (J5:(Zb→Zb→Option Bool)) (a0:Zb) (a1:Zb) (s0_:Int):Option (Int ⊕ (Unit ⊕ Unit)) :=
 cond (decide (s0_ < (a0.Kids.length:Int))) ((Y7 a0.Kids s0_).bind fun x9=>(Y7 a1.Kids s0_).bind fun x10=>(J5 x9 x10).bind fun y11=>cond (!y11) (some (.inr (.inl ()))) (some (.inl (IntKind.i64.wrap (s0_+1))))) (some (.inr (.inr ())))
noncomputable def Zbq (J5:(Zb→Zb→Option Bool)) (a0:Zb) (a1:Zb):Option Bool :=
 (cond (a0.Kind != a1.Kind) (some true) ((Zbz a0.Words a1.Words).bind fun y4=>some (cond (cond (a0.Kind != a1.Kind) true (!y4)) true ((a0.Kids.length:Int) != (a1.Kids.length:Int))))).bind fun (z2:Bool)=>cond z2 (some false) ((Zv (Um J5 a0 a1) 0).bind fun (z14:(Unit ⊕ Unit))=>match z14 with | .inl z14=>some false | .inr z14=>some true)
noncomputable def Kp:Nat→(Zb→Zb→Option Bool)
 | 0=>(fun _ _=>none)
 | k+1=>Zbq ((Kp k))
noncomputable def U8 (a0:Zb) (a1:Zb):Option Bool:=lim fun k=>(Kp k) a0 a1
noncomputable def Za1 (a0:(List Zb)) (s0_:(Int×(List Zb))):Option ((Int×(List Zb)) ⊕ (List Zb)) :=
 cond (decide (s0_.1 < (a0.length:Int))) ((Y7 a0 s0_.1).bind fun x1=>(U7 x1).bind fun y2=>(Gq 56 s0_.2 ([y2]:List Zb)).bind fun l3=>some (.inl ((IntKind.i64.wrap (s0_.1+1)),l3))) (some (.inr s0_.2))
noncomputable def Zat (a0:(List Zb)):Option (List Zb) :=
 (Zv (Za1 a0) (0,([]:List Zb))).bind fun (z5:(List Zb))=>some z5
noncomputable def Q5 (a0:(List Zh)) (a2:Int) (s0_:(Int×(List Zb))):Option ((Int×(List Zb)) ⊕ (Int×(List Zb))) :=
 (cond (decide (s0_.1 < (a0.length:Int))) ((Y7 a0 s0_.1).bind fun x10=>cond (x10.Kind == 1) (some (cond (decide (s0_.1 < (a0.length:Int))) true false)) (some (cond (decide (s0_.1 < (a0.length:Int))) (cond (x10.Kind == 1) true (x10.Kind == 2)) false))) (some false)).bind fun (z5:Bool)=>cond z5 (((Y7 a0 s0_.1).bind fun x19=>cond (x19.Kind == a2) ((Y7 a0 s0_.1).bind fun x21=>(Zat x21.L).bind fun y23=>(Gq 56 s0_.2 y23).bind fun l24=>some l24) (some s0_.2)).bind fun (z16:(List Zb))=>some (.inl ((IntKind.i64.wrap (s0_.1+1)),z16))) (some (.inr (s0_.1,s0_.2)))
noncomputable def G9 (a0:(List Zh)) (a1:Int) (a2:Int):Option ((List Zb)×Int) :=
 (Zv (Q5 a0 a2) (a1,([]:List Zb))).bind fun (z27:(Int×(List Zb)))=>some (z27.2,z27.1)
noncomputable def Gc (a0:Int) (a1:Zc):Option Bool :=
 some (cond (a1.Kind == 0) true (cond (cond (cond (a1.Kind == 2) (a0 == 9) false) ((a1.Words.length:Int) == 0) false) ((a1.Kids.length:Int) == 0) false))
noncomputable def Un (Xh:(Zc→Option Zc)) (a0:Zc) (s0_:(Int×(List Zk))):Option ((Int×(List Zk)) ⊕ (List Zk)) :=
 cond (decide (s0_.1 < (a0.Kids.length:Int))) ((Y7 a0.Kids s0_.1).bind fun x7=>(Xh x7.E).bind fun y11=>(Gq 208 s0_.2 ([(⟨x7.At,y11⟩:Zk)]:List Zk)).bind fun l12=>some (.inl ((IntKind.i64.wrap (s0_.1+1)),l12))) (some (.inr s0_.2))
noncomputable def Zbr (Xh:(Zc→Option Zc)) (Q2:(Int→(List Zh)→Option (List Zh))) (a0:Zc):Option Zc :=
 cond (a0.Kind == 1) ((U7 a0.Old).bind fun y3=>(U7 a0.New).bind fun y4=>some (⟨1,y3,y4,[],[],0,[]⟩:Zc)) (cond (a0.Kind == 2) ((Gq 32 ([]:List Zt) a0.Words).bind fun l6=>(Zv (Un Xh a0) (0,([]:List Zk))).bind fun (z14:(List Zk))=>some (⟨2,⟨0,[],[]⟩,⟨0,[],[]⟩,l6,z14,0,[]⟩:Zc)) (cond (a0.Kind == 3) ((Q2 a0.List_ a0.Ops).bind fun y16=>some (⟨3,⟨0,[],[]⟩,⟨0,[],[]⟩,[],[],a0.List_,y16⟩:Zc)) (some (⟨0,⟨0,[],[]⟩,⟨0,[],[]⟩,[],[],0,[]⟩:Zc))))
noncomputable def Xy (Xh:(Zc→Option Zc)) (a0:Int) (a1:(List Zh)) (s0_:(Int×(List Zh))):Option ((Int×(List Zh)) ⊕ ((List Zh) ⊕ (List Zh))) :=
 cond (decide (s0_.1 < (a1.length:Int))) (((G9 a1 s0_.1 1).bind fun y3=>(G9 a1 s0_.1 2).bind fun y5=>(cond (decide (0 < (y3.1.length:Int))) ((Gq 240 s0_.2 ([(⟨1,0,y3.1,⟨0,⟨0,[],[]⟩,⟨0,[],[]⟩,[],[],0,[]⟩⟩:Zh)]:List Zh)).bind fun l7=>some l7) (some s0_.2)).bind fun (z6:(List Zh))=>(cond (decide (0 < (y5.1.length:Int))) ((Gq 240 z6 ([(⟨2,0,y5.1,⟨0,⟨0,[],[]⟩,⟨0,[],[]⟩,[],[],0,[]⟩⟩:Zh)]:List Zh)).bind fun l10=>some l10) (some z6)).bind fun (z9:(List Zh))=>cond (decide ((a1.length:Int)≤y3.2)) (some (.inr z9)) ((Y7 a1 y3.2).bind fun x14=>((Y7 a1 y3.2).bind fun x19=>cond (x19.Kind == 3) ((Y7 a1 y3.2).bind fun x24=>(Xh x24.E).bind fun y26=>(Gc a0 y26).bind fun y28=>cond y28 (some (0,1,0,0,([]:(List Int)),([]:(List Zb)),0,([]:(List Int)),([]:(List Zb)),([]:(List Zt)),([]:(List Zk)),0,([]:(List Zh)))) (some (3,0,y26.Kind,y26.Old.Kind,y26.Old.Words,y26.Old.Kids,y26.New.Kind,y26.New.Words,y26.New.Kids,y26.Words,y26.Kids,y26.List_,y26.Ops))) (some (0,x14.N,0,0,([]:(List Int)),([]:(List Zb)),0,([]:(List Int)),([]:(List Zb)),([]:(List Zt)),([]:(List Zk)),0,([]:(List Zh))))).bind fun (z16:(Int×Int×Int×Int×(List Int)×(List Zb)×Int×(List Int)×(List Zb)×(List Zt)×(List Zk)×Int×(List Zh)))=>(cond (z16.1 == 0) (cond (decide (0 < (z9.length:Int))) ((Y7 z9 (IntKind.i64.wrap ((z9.length:Int) - 1))).bind fun x36=>some (cond (cond (z16.1 == 0) (decide (0 < (z9.length:Int))) false) (x36.Kind == 0) false)) (some false)) (some false)).bind fun (z33:Bool)=>cond z33 ((Y7 z9 (IntKind.i64.wrap ((z9.length:Int) - 1))).bind fun x40=>some (.inl (y3.2,(Zf0 z9 (IntKind.i64.wrap ((z9.length:Int) - 1)) (⟨x40.Kind,(IntKind.i64.wrap (x40.N+z16.2.1)),x40.L,x40.E⟩:Zh))))) ((Gq 240 z9 ([(⟨z16.1,z16.2.1,[],⟨z16.2.2.1,⟨z16.2.2.2.1,z16.2.2.2.2.1,z16.2.2.2.2.2.1⟩,⟨z16.2.2.2.2.2.2.1,z16.2.2.2.2.2.2.2.1,z16.2.2.2.2.2.2.2.2.1⟩,z16.2.2.2.2.2.2.2.2.2.1,z16.2.2.2.2.2.2.2.2.2.2.1,z16.2.2.2.2.2.2.2.2.2.2.2.1,z16.2.2.2.2.2.2.2.2.2.2.2.2⟩⟩:Zh)]:List Zh)).bind fun l44=>some (.inl (y3.2,l44))))).bind fun (z1:((Int×(List Zh)) ⊕ (List Zh)))=>match z1 with | .inl z1=>some (.inl ((IntKind.i64.wrap (z1.1+1)),z1.2)) | .inr z1=>some (.inr (.inl z1))) (some (.inr (.inr s0_.2)))
noncomputable def G5 (Xh:(Zc→Option Zc)) (Q2:(Int→(List Zh)→Option (List Zh))) (a0:Int) (a1:(List Zh)):Option (List Zh) :=
 (Zv (Xy Xh a0 a1) (0,([]:List Zh))).bind fun (z48:((List Zh) ⊕ (List Zh)))=>match z48 with | .inl z48=>some z48 | .inr z48=>some z48
noncomputable def Xg:Nat→((Zc→Option Zc)×(Int→(List Zh)→Option (List Zh)))
 | 0=>((fun _=>none),(fun _ _=>none))
 | k+1=>(Zbr ((Xg k).1) ((Xg k).2),G5 ((Xg k).1) ((Xg k).2))
noncomputable def Ga (a0:Zc):Option Zc:=lim fun k=>(Xg k).1 a0
noncomputable def Vu (a0:(List Zb)) (a1:(List Zb)) (s0_:Int):Option (Int ⊕ (Unit ⊕ Unit)) :=
 cond (decide (s0_ < (a0.length:Int))) ((Y7 a0 s0_).bind fun x4=>(Y7 a1 s0_).bind fun x5=>(U8 x4 x5).bind fun y6=>cond (!y6) (some (.inr (.inl ()))) (some (.inl (IntKind.i64.wrap (s0_+1))))) (some (.inr (.inr ())))
noncomputable def Vc (a0:(List Zb)) (a1:(List Zb)):Option Bool :=
 cond ((a0.length:Int) != (a1.length:Int)) (some false) ((Zv (Vu a0 a1) 0).bind fun (z9:(Unit ⊕ Unit))=>match z9 with | .inl z9=>some false | .inr z9=>some true)
noncomputable def Uo (a0:Zc) (a1:Zc) (s0_:Int):Option (Int ⊕ (Unit ⊕ Unit)) :=
 cond (decide (s0_ < (a0.Words.length:Int))) ((Y7 a0.Words s0_).bind fun x13=>(Y7 a1.Words s0_).bind fun x14=>cond (!((x13.At == x14.At) && ((x13.Mask == x14.Mask) && ((x13.Old == x14.Old) && (x13.New == x14.New))))) (some (.inr (.inl ()))) (some (.inl (IntKind.i64.wrap (s0_+1))))) (some (.inr (.inr ())))
noncomputable def Up (Qc:(Zc→Zc→Option Bool)) (a0:Zc) (a1:Zc) (s1_:Int):Option (Int ⊕ (Unit ⊕ Unit)) :=
 cond (decide (s1_ < (a0.Kids.length:Int))) (((Y7 a0.Kids s1_).bind fun x37=>(Y7 a1.Kids s1_).bind fun x39=>cond (x37.At != x39.At) (some true) ((Qc x37.E x39.E).bind fun y45=>some (cond (x37.At != x39.At) true (!y45)))).bind fun (z27:Bool)=>cond z27 (some (.inr (.inl ()))) (some (.inl (IntKind.i64.wrap (s1_+1))))) (some (.inr (.inr ())))
noncomputable def Uq (Qc:(Zc→Zc→Option Bool)) (a0:Zc) (a1:Zc) (s2_:Int):Option (Int ⊕ (Unit ⊕ Unit)) :=
 cond (decide (s2_ < (a0.Ops.length:Int))) ((Y7 a0.Ops s2_).bind fun x50=>(Y7 a1.Ops s2_).bind fun x51=>(cond (x50.Kind != x51.Kind) (some true) (cond (x50.N != x51.N) (some true) ((Vc x50.L x51.L).bind fun y57=>cond y57 ((Qc x50.E x51.E).bind fun y58=>some (cond (cond (cond (x50.Kind != x51.Kind) true (x50.N != x51.N)) true (!y57)) true (!y58))) (some true)))).bind fun (z54:Bool)=>cond z54 (some (.inr (.inl ()))) (some (.inl (IntKind.i64.wrap (s2_+1))))) (some (.inr (.inr ())))
noncomputable def Zbs (Qc:(Zc→Zc→Option Bool)) (a0:Zc) (a1:Zc):Option Bool :=
 (cond (a0.Kind != a1.Kind) (some true) (cond (a0.List_ != a1.List_) (some true) ((U8 a0.Old a1.Old).bind fun y6=>cond y6 ((U8 a0.New a1.New).bind fun y7=>some (cond (cond (cond (cond (cond (cond (a0.Kind != a1.Kind) true (a0.List_ != a1.List_)) true (!y6)) true (!y7)) true ((a0.Words.length:Int) != (a1.Words.length:Int))) true ((a0.Kids.length:Int) != (a1.Kids.length:Int))) true ((a0.Ops.length:Int) != (a1.Ops.length:Int)))) (some true)))).bind fun (z3:Bool)=>cond z3 (some false) ((Zv (Uo a0 a1) 0).bind fun (z17:(Unit ⊕ Unit))=>match z17 with | .inl z17=>some false | .inr z17=>(Zv (Up Qc a0 a1) 0).bind fun (z49:(Unit ⊕ Unit))=>match z49 with | .inl z49=>some false | .inr z49=>(Zv (Uq Qc a0 a1) 0).bind fun (z64:(Unit ⊕ Unit))=>match z64 with | .inl z64=>some false | .inr z64=>some true)
noncomputable def Kq:Nat→(Zc→Zc→Option Bool)
 | 0=>(fun _ _=>none)
 | k+1=>Zbs ((Kq k))
noncomputable def Gb (a0:Zc) (a1:Zc):Option Bool:=lim fun k=>(Kq k) a0 a1
noncomputable def Kt (a0:(List Zx)) (s0_:Int):Option (Int ⊕ (Unit ⊕ Unit)) :=
 cond (decide (s0_ < (a0.length:Int))) ((Y7 a0 s0_).bind fun x3=>cond (x3.Kind != 0) (some (.inr (.inl ()))) (some (.inl (IntKind.i64.wrap (s0_+1))))) (some (.inr (.inr ())))
noncomputable def Zby (a0:(List Zx)):Option Bool :=
 (Zv (Kt a0) 0).bind fun (z7:(Unit ⊕ Unit))=>match z7 with | .inl z7=>some false | .inr z7=>some true
noncomputable def Zfb (a0:(List Zx)) (a1:(List Zx)) (s0_:Int):Option (Int ⊕ (Unit ⊕ Unit)) :=
 cond (decide (s0_ < (a0.length:Int))) ((Y7 a0 s0_).bind fun x3=>(Y7 a1 s0_).bind fun x4=>cond (!((x3.Kind == x4.Kind) && (x3.At == x4.At))) (some (.inr (.inl ()))) (some (.inl (IntKind.i64.wrap (s0_+1))))) (some (.inr (.inr ())))
noncomputable def Gd (a0:(List Zx)) (a1:(List Zx)):Option Bool :=
 cond ((a0.length:Int) != (a1.length:Int)) (some false) ((Zv (Zfb a0 a1) 0).bind fun (z7:(Unit ⊕ Unit))=>match z7 with | .inl z7=>some false | .inr z7=>some true)
noncomputable def Xw (a1:(List Zx)) (a3:(List Zx)) (s0_:Int):Option (Int ⊕ Int) :=
 (cond (decide (s0_ < (a1.length:Int))) (cond (decide (s0_ < (a3.length:Int))) ((Y7 a1 s0_).bind fun x49=>(Y7 a3 s0_).bind fun x50=>some (cond (cond (decide (s0_ < (a1.length:Int))) (decide (s0_ < (a3.length:Int))) false) ((x49.Kind == x50.Kind) && (x49.At == x50.At)) false)) (some false)) (some false)).bind fun (z46:Bool)=>cond z46 (some (.inl (IntKind.i64.wrap (s0_+1)))) (some (.inr s0_))
noncomputable def Uj (a0:Zb) (a1:(List Zx)) (a2:Zc) (a3:(List Zx)):Option Bool :=
 ((U5 a0).bind fun y8=>cond y8 ((Zb1 a2).bind fun y9=>cond y9 (cond (decide (70 < (a1.length:Int))) (some true) (cond (decide (70 < (a3.length:Int))) (some true) ((Zby a3).bind fun y10=>some (cond (cond (cond (cond (!y8) true (!y9)) true (decide (70 < (a1.length:Int)))) true (decide (70 < (a3.length:Int)))) true (!y10))))) (some true)) (some true)).bind fun (z4:Bool)=>cond z4 ((Qe).bind fun y16=>some y16) ((Zb4 a0 a1 a2).bind fun y18=>cond (!y18.2) ((Qe).bind fun y20=>some y20) ((Ux y18.1 a1).bind fun y22=>(cond y22.2.2 ((Gd y22.2.1 a1).bind fun y34=>cond y34 (cond (y18.1.Kind != 0) (cond (a2.Kind == 2) (cond ((IntKind.i64.wrap ((a2.Words.length:Int)+(a2.Kids.length:Int))) == 0) (some (cond (cond (!y22.2.2) true (!y34)) true false)) ((Ga a2).bind fun y35=>(Gb y22.1 y35).bind fun y36=>some (cond (cond (!y22.2.2) true (!y34)) true (cond (cond (y18.1.Kind != 0) (!(cond (a2.Kind == 2) ((IntKind.i64.wrap ((a2.Words.length:Int)+(a2.Kids.length:Int))) == 0) false)) false) (!y36) false)))) ((Ga a2).bind fun y37=>(Gb y22.1 y37).bind fun y38=>some (cond (cond (!y22.2.2) true (!y34)) true (cond (cond (y18.1.Kind != 0) (!(cond (a2.Kind == 2) ((IntKind.i64.wrap ((a2.Words.length:Int)+(a2.Kids.length:Int))) == 0) false)) false) (!y38) false)))) (some (cond (cond (!y22.2.2) true (!y34)) true false))) (some true)) (some true)).bind fun (z28:Bool)=>cond z28 (some false) ((Zv (Xw a1 a3) 0).bind fun (z54:Int)=>cond (cond (z54 == (a1.length:Int)) true (z54 == (a3.length:Int))) ((Qe).bind fun y56=>some y56) ((Zhx y18.1 a0).bind fun y58=>(cond y58.2 ((U5 y58.1).bind fun y62=>some (cond (!y58.2) true (!y62))) (some true)).bind fun (z60:Bool)=>cond z60 ((Qe).bind fun y65=>some y65) ((Zfv a0 a3).bind fun y67=>(Zfv y58.1 a3).bind fun y69=>(cond y67.2 (cond y69.2 ((U8 y67.1 y69.1).bind fun y77=>cond y77 ((Qe).bind fun y78=>some (cond (cond (!y67.2) true (cond y69.2 y77 false)) y78 false)) (some false)) (some false)) ((Qe).bind fun y79=>some y79)).bind fun (z73:Bool)=>some z73)))))
mutual
def Zcp:Zb→List G
 | ⟨f0,f1,f2⟩=>[.val (.int .i64 f0),.sl f1.length (fl (eI .u64) f1),.sl f2.length (Zcq f2)]
def Zcq:List Zb→List G
 | []=>[]
 | x::xs=>Zcp x++Zcq xs
end
theorem Zl0:∀ xs,Zcq xs=fl Zcp xs
 | []=>by simp [Zcq,fl]
 | x::xs=>by rw [Zcq,Zaz,Zl0 xs]
def Za (x:Zb):List G:=[.val (.int .i64 x.Kind),.sl x.Words.length (fl (eI .u64) x.Words),.sl x.Kids.length (fl Zcp x.Kids)]
theorem Yr:Zcp=Za:=by
 funext x
 obtain ⟨_,_,_⟩:=x
 simp only [Zcp,Zl0,Za,List.cons_append,List.nil_append,List.append_nil]
mutual
theorem Zki:∀ x,G.pures (Zcp x)=true
 | ⟨f0,f1,f2⟩=>by simp [Zcp,eP,Vw,eI,eB,eS,eL,G.pures,G.pure,Zen,Yn,Zon f2]
theorem Zon:∀ xs,G.pures (Zcq xs)=true
 | []=>rfl
 | x::xs=>by simp [Zcq,Zen,Zki x,Zon xs]
end
theorem Zkj:∀ x,G.pures (Za x)=true:=fun x=>by rw [← Yr];exact Zki x
theorem K0:∀ x,G.pures ((eI .u64) x)=true:=fun x=>by simp [eI,eB,eS,eL,eP,G.pures,G.pure,Yn,Vw,Yr]
theorem Zoe {O O':Objs} {n:Nat} (xs:List Int):wkl O O' n (fl (eI .u64) xs) (fl (eI .u64) xs):=Zgm (Yn K0 xs)
theorem Zoc {O O':Objs} {n:Nat} (xs:List Int) (b b':List G):wkl O O' n (fl (eI .u64) xs++b) (fl (eI .u64) xs++b')=wkl O O' n b b':=Zfo b b' _ (Yn K0 xs)
theorem Znd (xs:List Int):(fl (eI .u64) xs).length=xs.length * 1:=Jo (f:=(eI .u64)) (k:=1) (fun _=>rfl) xs
theorem Znp (xs:List Int):(fl (eI .u64) xs).all G.one=true:=Zac (fun x=>by simp [eI,eB,eS,eL,eP,Zh3,G.one,Value.oneCell']) xs
theorem Zog {O O':Objs} {n:Nat} (x:Option Int):wk O O' n (gP (eI .u64) x) (gP (eI .u64) x)=True:=Zrl K0 x
theorem Zlk {k:Nat} (x:Option Int):(gP (eI .u64) x).under k=true:=Zfm K0 k x
theorem Zlh {ρ:Nat→Nat} (xs:List Int):G.rens ρ (fl (eI .u64) xs)=fl (eI .u64) xs:=Vl ρ _ (Yn K0 xs)
theorem Zlf {ρ:Nat→Nat} (x:Option Int):(gP (eI .u64) x).ren ρ=gP (eI .u64) x:=Zei ρ _ (Vw K0 x)
theorem Zn9 {k:Nat} (xs:List Int):G.unders k (fl (eI .u64) xs)=true:=Qa _ _ (Yn K0 xs)
theorem Xl:∀ x,G.pures (Za x)=true:=fun x=>by rw [← Yr];exact Zki x
theorem Zf7 {O O':Objs} {n:Nat} (xs:List Zb):wkl O O' n (fl Za xs) (fl Za xs):=Zgm (Yn Xl xs)
theorem Zf5 {O O':Objs} {n:Nat} (xs:List Zb) (b b':List G):wkl O O' n (fl Za xs++b) (fl Za xs++b')=wkl O O' n b b':=Zfo b b' _ (Yn Xl xs)
theorem Zfu (xs:List Zb):(fl Za xs).length=xs.length * 3:=Jo (f:=Za) (k:=3) (fun _=>rfl) xs
theorem Zfz (xs:List Zb):(fl Za xs).all G.one=true:=Zac (fun x=>by simp [eI,eB,eS,eL,eP,Zh3,G.one,Value.oneCell',Za]) xs
theorem Zf9 {O O':Objs} {n:Nat} (x:Option Zb):wk O O' n (gP Za x) (gP Za x)=True:=Zrl Xl x
theorem Ze0 {k:Nat} (x:Option Zb):(gP Za x).under k=true:=Zfm Xl k x
theorem Zey {ρ:Nat→Nat} (xs:List Zb):G.rens ρ (fl Za xs)=fl Za xs:=Vl ρ _ (Yn Xl xs)
theorem Zew {ρ:Nat→Nat} (x:Option Zb):(gP Za x).ren ρ=gP Za x:=Zei ρ _ (Vw Xl x)
theorem Zf3 {k:Nat} (xs:List Zb):G.unders k (fl Za xs)=true:=Qa _ _ (Yn Xl xs)
def Zl (x:Zt):List G:=[.val (.int .i64 x.At),.val (.int .u8 x.Mask),.val (.int .u64 x.Old),.val (.int .u64 x.New)]
mutual
def K6:Zc→List G
 | ⟨f0,f1,f2,f3,f4,f5,f6⟩=>[.val (.int .i64 f0),.val (.int .i64 f1.Kind),.sl f1.Words.length (fl (eI .u64) f1.Words),.sl f1.Kids.length (fl Za f1.Kids),.val (.int .i64 f2.Kind),.sl f2.Words.length (fl (eI .u64) f2.Words),.sl f2.Kids.length (fl Za f2.Kids),.sl f3.length (fl Zl f3),.sl f4.length (V6 f4),.val (.int .i64 f5),.sl f6.length (Ze4 f6)]
def Zek:List Zc→List G
 | []=>[]
 | x::xs=>K6 x++Zek xs
def Ur:Zh→List G
 | ⟨f0,f1,f2,f3⟩=>[.val (.int .i64 f0),.val (.int .i64 f1),.sl f2.length (fl Za f2)]++K6 f3
def Ze4:List Zh→List G
 | []=>[]
 | x::xs=>Ur x++Ze4 xs
def Qk:Zk→List G
 | ⟨f0,f1⟩=>[.val (.int .i64 f0)]++K6 f1
def V6:List Zk→List G
 | []=>[]
 | x::xs=>Qk x++V6 xs
end
theorem Zfs:∀ xs,Zek xs=fl K6 xs
 | []=>by simp [Zek,fl]
 | x::xs=>by rw [Zek,Zaz,Zfs xs]
theorem Zho:∀ xs,Ze4 xs=fl Ur xs
 | []=>by simp [Ze4,fl]
 | x::xs=>by rw [Ze4,Zaz,Zho xs]
theorem Zcy:∀ xs,V6 xs=fl Qk xs
 | []=>by simp [V6,fl]
 | x::xs=>by rw [V6,Zaz,Zcy xs]
def Qh (x:Zc):List G:=[.val (.int .i64 x.Kind),.val (.int .i64 x.Old.Kind),.sl x.Old.Words.length (fl (eI .u64) x.Old.Words),.sl x.Old.Kids.length (fl Za x.Old.Kids),.val (.int .i64 x.New.Kind),.sl x.New.Words.length (fl (eI .u64) x.New.Words),.sl x.New.Kids.length (fl Za x.New.Kids),.sl x.Words.length (fl Zl x.Words),.sl x.Kids.length (fl Qk x.Kids),.val (.int .i64 x.List_),.sl x.Ops.length (fl Ur x.Ops)]
def Zd (x:Zh):List G:=[.val (.int .i64 x.Kind),.val (.int .i64 x.N),.sl x.L.length (fl Za x.L),.val (.int .i64 x.E.Kind),.val (.int .i64 x.E.Old.Kind),.sl x.E.Old.Words.length (fl (eI .u64) x.E.Old.Words),.sl x.E.Old.Kids.length (fl Za x.E.Old.Kids),.val (.int .i64 x.E.New.Kind),.sl x.E.New.Words.length (fl (eI .u64) x.E.New.Words),.sl x.E.New.Kids.length (fl Za x.E.New.Kids),.sl x.E.Words.length (fl Zl x.E.Words),.sl x.E.Kids.length (fl Qk x.E.Kids),.val (.int .i64 x.E.List_),.sl x.E.Ops.length (fl Ur x.E.Ops)]
def Zi (x:Zk):List G:=[.val (.int .i64 x.At),.val (.int .i64 x.E.Kind),.val (.int .i64 x.E.Old.Kind),.sl x.E.Old.Words.length (fl (eI .u64) x.E.Old.Words),.sl x.E.Old.Kids.length (fl Za x.E.Old.Kids),.val (.int .i64 x.E.New.Kind),.sl x.E.New.Words.length (fl (eI .u64) x.E.New.Words),.sl x.E.New.Kids.length (fl Za x.E.New.Kids),.sl x.E.Words.length (fl Zl x.E.Words),.sl x.E.Kids.length (fl Qk x.E.Kids),.val (.int .i64 x.E.List_),.sl x.E.Ops.length (fl Ur x.E.Ops)]
theorem Xn:K6=Qh:=by
 funext x
 obtain ⟨_,_,_,_,_,_,_⟩:=x
 simp only [K6,Zfs,Ur,Zho,Qk,Zcy,Qh,List.cons_append,List.nil_append,List.append_nil]
theorem Xv:Ur=Zd:=by
 funext x
 obtain ⟨_,_,_,⟨_,_,_,_,_,_,_⟩⟩:=x
 simp only [K6,Zfs,Ur,Zho,Qk,Zcy,Zd,List.cons_append,List.nil_append,List.append_nil]
theorem Y4:Qk=Zi:=by
 funext x
 obtain ⟨_,⟨_,_,_,_,_,_,_⟩⟩:=x
 simp only [K6,Zfs,Ur,Zho,Qk,Zcy,Zi,List.cons_append,List.nil_append,List.append_nil]
mutual
theorem Zkh:∀ x,G.pures (K6 x)=true
 | ⟨f0,f1,f2,f3,f4,f5,f6⟩=>by simp [K6,eP,Vw,eI,eB,eS,eL,G.pures,G.pure,Zen,Yn,Zkk f4,Zrj f6,K0,Xl,Zkj,Zl]
theorem Zws:∀ xs,G.pures (Zek xs)=true
 | []=>rfl
 | x::xs=>by simp [Zek,Zen,Zkh x,Zws xs]
theorem Zts:∀ x,G.pures (Ur x)=true
 | ⟨f0,f1,f2,f3⟩=>by simp [Ur,eP,Vw,eI,eB,eS,eL,G.pures,G.pure,Zen,Yn,Zkh f3,K0,Xl,Zkj,Zl]
theorem Zrj:∀ xs,G.pures (Ze4 xs)=true
 | []=>rfl
 | x::xs=>by simp [Ze4,Zen,Zts x,Zrj xs]
theorem Zld:∀ x,G.pures (Qk x)=true
 | ⟨f0,f1⟩=>by simp [Qk,eP,Vw,eI,eB,eS,eL,G.pures,G.pure,Zen,Yn,Zkh f1,K0,Xl,Zkj,Zl]
theorem Zkk:∀ xs,G.pures (V6 xs)=true
 | []=>rfl
 | x::xs=>by simp [V6,Zen,Zld x,Zkk xs]
end
theorem Xi:∀ x,G.pures (Zl x)=true:=fun x=>by simp [eI,eB,eS,eL,eP,G.pures,G.pure,Yn,Vw,Zl,K0,Xl,Yr,Xn,Xv,Y4]
theorem Zck {O O':Objs} {n:Nat} (xs:List Zt):wkl O O' n (fl Zl xs) (fl Zl xs):=Zgm (Yn Xi xs)
theorem Zci {O O':Objs} {n:Nat} (xs:List Zt) (b b':List G):wkl O O' n (fl Zl xs++b) (fl Zl xs++b')=wkl O O' n b b':=Zfo b b' _ (Yn Xi xs)
theorem Zbv (xs:List Zt):(fl Zl xs).length=xs.length * 4:=Jo (f:=Zl) (k:=4) (fun _=>rfl) xs
theorem Zb9 (xs:List Zt):(fl Zl xs).all G.one=true:=Zac (fun x=>by simp [eI,eB,eS,eL,eP,Zh3,G.one,Value.oneCell',Zl]) xs
theorem Zcm {O O':Objs} {n:Nat} (x:Option Zt):wk O O' n (gP Zl x) (gP Zl x)=True:=Zrl Xi x
theorem Za9 {k:Nat} (x:Option Zt):(gP Zl x).under k=true:=Zfm Xi k x
theorem Za6 {ρ:Nat→Nat} (xs:List Zt):G.rens ρ (fl Zl xs)=fl Zl xs:=Vl ρ _ (Yn Xi xs)
theorem Za4 {ρ:Nat→Nat} (x:Option Zt):(gP Zl x).ren ρ=gP Zl x:=Zei ρ _ (Vw Xi x)
theorem Zcf {k:Nat} (xs:List Zt):G.unders k (fl Zl xs)=true:=Qa _ _ (Yn Xi xs)
theorem Xu:∀ x,G.pures (Zi x)=true:=fun x=>by rw [← Y4];exact Zld x
theorem Zc3 {O O':Objs} {n:Nat} (xs:List Zk):wkl O O' n (fl Zi xs) (fl Zi xs):=Zgm (Yn Xu xs)
theorem Zc2 {O O':Objs} {n:Nat} (xs:List Zk) (b b':List G):wkl O O' n (fl Zi xs++b) (fl Zi xs++b')=wkl O O' n b b':=Zfo b b' _ (Yn Xu xs)
theorem Zcz (xs:List Zk):(fl Zi xs).length=xs.length * 12:=Jo (f:=Zi) (k:=12) (fun _=>rfl) xs
theorem Zc0 (xs:List Zk):(fl Zi xs).all G.one=true:=Zac (fun x=>by simp [eI,eB,eS,eL,eP,Zh3,G.one,Value.oneCell',Zi]) xs
theorem Zc4 {O O':Objs} {n:Nat} (x:Option Zk):wk O O' n (gP Zi x) (gP Zi x)=True:=Zrl Xu x
theorem Zch {k:Nat} (x:Option Zk):(gP Zi x).under k=true:=Zfm Xu k x
theorem Zcc {ρ:Nat→Nat} (xs:List Zk):G.rens ρ (fl Zi xs)=fl Zi xs:=Vl ρ _ (Yn Xu xs)
theorem Zcb {ρ:Nat→Nat} (x:Option Zk):(gP Zi x).ren ρ=gP Zi x:=Zei ρ _ (Vw Xu x)
theorem Zc1 {k:Nat} (xs:List Zk):G.unders k (fl Zi xs)=true:=Qa _ _ (Yn Xu xs)
theorem Jk:∀ x,G.pures (Zd x)=true:=fun x=>by rw [← Xv];exact Zts x
theorem Zh9 {O O':Objs} {n:Nat} (xs:List Zh):wkl O O' n (fl Zd xs) (fl Zd xs):=Zgm (Yn Jk xs)
theorem Zh8 {O O':Objs} {n:Nat} (xs:List Zh) (b b':List G):wkl O O' n (fl Zd xs++b) (fl Zd xs++b')=wkl O O' n b b':=Zfo b b' _ (Yn Jk xs)
theorem Zhw (xs:List Zh):(fl Zd xs).length=xs.length * 14:=Jo (f:=Zd) (k:=14) (fun _=>rfl) xs
theorem Zh2 (xs:List Zh):(fl Zd xs).all G.one=true:=Zac (fun x=>by simp [eI,eB,eS,eL,eP,Zh3,G.one,Value.oneCell',Zd]) xs
theorem Zia {O O':Objs} {n:Nat} (x:Option Zh):wk O O' n (gP Zd x) (gP Zd x)=True:=Zrl Jk x
theorem Zgx {k:Nat} (x:Option Zh):(gP Zd x).under k=true:=Zfm Jk k x
theorem Zgv {ρ:Nat→Nat} (xs:List Zh):G.rens ρ (fl Zd xs)=fl Zd xs:=Vl ρ _ (Yn Jk xs)
theorem Zgu {ρ:Nat→Nat} (x:Option Zh):(gP Zd x).ren ρ=gP Zd x:=Zei ρ _ (Vw Jk x)
theorem Zh7 {k:Nat} (xs:List Zh):G.unders k (fl Zd xs)=true:=Qa _ _ (Yn Jk xs)
theorem Zfj:∀ x,G.pures ((eI .u8) x)=true:=fun x=>by simp [eI,eB,eS,eL,eP,G.pures,G.pure,Yn,Vw,K0,Xl,Xi,Xu,Jk,Yr,Xn,Xv,Y4]
theorem Zqz {O O':Objs} {n:Nat} (xs:List Int):wkl O O' n (fl (eI .u8) xs) (fl (eI .u8) xs):=Zgm (Yn Zfj xs)
theorem Zqy {O O':Objs} {n:Nat} (xs:List Int) (b b':List G):wkl O O' n (fl (eI .u8) xs++b) (fl (eI .u8) xs++b')=wkl O O' n b b':=Zfo b b' _ (Yn Zfj xs)
theorem Zp8 (xs:List Int):(fl (eI .u8) xs).length=xs.length * 1:=Jo (f:=(eI .u8)) (k:=1) (fun _=>rfl) xs
theorem Zqc (xs:List Int):(fl (eI .u8) xs).all G.one=true:=Zac (fun x=>by simp [eI,eB,eS,eL,eP,Zh3,G.one,Value.oneCell']) xs
theorem Zq0 {O O':Objs} {n:Nat} (x:Option Int):wk O O' n (gP (eI .u8) x) (gP (eI .u8) x)=True:=Zrl Zfj x
theorem Zoa {k:Nat} (x:Option Int):(gP (eI .u8) x).under k=true:=Zfm Zfj k x
theorem Zny {ρ:Nat→Nat} (xs:List Int):G.rens ρ (fl (eI .u8) xs)=fl (eI .u8) xs:=Vl ρ _ (Yn Zfj xs)
theorem Znx {ρ:Nat→Nat} (x:Option Int):(gP (eI .u8) x).ren ρ=gP (eI .u8) x:=Zei ρ _ (Vw Zfj x)
theorem Zqx {k:Nat} (xs:List Int):G.unders k (fl (eI .u8) xs)=true:=Qa _ _ (Yn Zfj xs)
def Zr (x:Zx):List G:=[.val (.int .i64 x.Kind),.val (.int .i64 x.At)]
theorem Jl:∀ x,G.pures (Zr x)=true:=fun x=>by simp [eI,eB,eS,eL,eP,G.pures,G.pure,Yn,Vw,Zr,K0,Xl,Xi,Xu,Jk,Zfj,Yr,Xn,Xv,Y4]
theorem Zf6 {O O':Objs} {n:Nat} (xs:List Zx):wkl O O' n (fl Zr xs) (fl Zr xs):=Zgm (Yn Jl xs)
theorem Zf4 {O O':Objs} {n:Nat} (xs:List Zx) (b b':List G):wkl O O' n (fl Zr xs++b) (fl Zr xs++b')=wkl O O' n b b':=Zfo b b' _ (Yn Jl xs)
theorem Zft (xs:List Zx):(fl Zr xs).length=xs.length * 2:=Jo (f:=Zr) (k:=2) (fun _=>rfl) xs
theorem Zfy (xs:List Zx):(fl Zr xs).all G.one=true:=Zac (fun x=>by simp [eI,eB,eS,eL,eP,Zh3,G.one,Value.oneCell',Zr]) xs
theorem Zf8 {O O':Objs} {n:Nat} (x:Option Zx):wk O O' n (gP Zr x) (gP Zr x)=True:=Zrl Jl x
theorem Zez {k:Nat} (x:Option Zx):(gP Zr x).under k=true:=Zfm Jl k x
theorem Zex {ρ:Nat→Nat} (xs:List Zx):G.rens ρ (fl Zr xs)=fl Zr xs:=Vl ρ _ (Yn Jl xs)
theorem Zev {ρ:Nat→Nat} (x:Option Zx):(gP Zr x).ren ρ=gP Zr x:=Zei ρ _ (Vw Jl x)
theorem Zf2 {k:Nat} (xs:List Zx):G.unders k (fl Zr xs)=true:=Qa _ _ (Yn Jl xs)
def Yj (x:Zy):List G:=[.sl x.out.length (fl Zd x.out),.val (.int .i64 x.kept),.sl x.gone.length (fl Za x.gone),.sl x.come.length (fl Za x.come)]
theorem X9:∀ x,G.pures (Yj x)=true:=fun x=>by simp [eI,eB,eS,eL,eP,G.pures,G.pure,Yn,Vw,Yj,K0,Xl,Xi,Xu,Jk,Zfj,Jl,Yr,Xn,Xv,Y4]
theorem Zbc {O O':Objs} {n:Nat} (xs:List Zy):wkl O O' n (fl Yj xs) (fl Yj xs):=Zgm (Yn X9 xs)
theorem Zbb {O O':Objs} {n:Nat} (xs:List Zy) (b b':List G):wkl O O' n (fl Yj xs++b) (fl Yj xs++b')=wkl O O' n b b':=Zfo b b' _ (Yn X9 xs)
theorem Za0 (xs:List Zy):(fl Yj xs).length=xs.length * 4:=Jo (f:=Yj) (k:=4) (fun _=>rfl) xs
theorem Za3 (xs:List Zy):(fl Yj xs).all G.one=true:=Zac (fun x=>by simp [eI,eB,eS,eL,eP,Zh3,G.one,Value.oneCell',Yj]) xs
theorem Zbd {O O':Objs} {n:Nat} (x:Option Zy):wk O O' n (gP Yj x) (gP Yj x)=True:=Zrl X9 x
theorem G0 {k:Nat} (x:Option Zy):(gP Yj x).under k=true:=Zfm X9 k x
theorem Gz {ρ:Nat→Nat} (xs:List Zy):G.rens ρ (fl Yj xs)=fl Yj xs:=Vl ρ _ (Yn X9 xs)
theorem Gy {ρ:Nat→Nat} (x:Option Zy):(gP Yj x).ren ρ=gP Yj x:=Zei ρ _ (Vw X9 x)
theorem Za8 {k:Nat} (xs:List Zy):G.unders k (fl Yj xs)=true:=Qa _ _ (Yn X9 xs)
theorem Zhd:∀ x,G.pures ((eI .i64) x)=true:=fun x=>by simp [eI,eB,eS,eL,eP,G.pures,G.pure,Yn,Vw,K0,Xl,Xi,Xu,Jk,Zfj,Jl,X9,Yr,Xn,Xv,Y4]
theorem Zod {O O':Objs} {n:Nat} (xs:List Int):wkl O O' n (fl (eI .i64) xs) (fl (eI .i64) xs):=Zgm (Yn Zhd xs)
theorem Zob {O O':Objs} {n:Nat} (xs:List Int) (b b':List G):wkl O O' n (fl (eI .i64) xs++b) (fl (eI .i64) xs++b')=wkl O O' n b b':=Zfo b b' _ (Yn Zhd xs)
theorem Znc (xs:List Int):(fl (eI .i64) xs).length=xs.length * 1:=Jo (f:=(eI .i64)) (k:=1) (fun _=>rfl) xs
theorem Zno (xs:List Int):(fl (eI .i64) xs).all G.one=true:=Zac (fun x=>by simp [eI,eB,eS,eL,eP,Zh3,G.one,Value.oneCell']) xs
theorem Zof {O O':Objs} {n:Nat} (x:Option Int):wk O O' n (gP (eI .i64) x) (gP (eI .i64) x)=True:=Zrl Zhd x
theorem Zlj {k:Nat} (x:Option Int):(gP (eI .i64) x).under k=true:=Zfm Zhd k x
theorem Zlg {ρ:Nat→Nat} (xs:List Int):G.rens ρ (fl (eI .i64) xs)=fl (eI .i64) xs:=Vl ρ _ (Yn Zhd xs)
theorem Zle {ρ:Nat→Nat} (x:Option Int):(gP (eI .i64) x).ren ρ=gP (eI .i64) x:=Zei ρ _ (Vw Zhd x)
theorem Zn8 {k:Nat} (xs:List Int):G.unders k (fl (eI .i64) xs)=true:=Qa _ _ (Yn Zhd xs)
def Ys (x:Zj):List G:=[.sl x.left.length (fl Za x.left),.sl x.out.length (fl Za x.out)]
theorem Jy:∀ x,G.pures (Ys x)=true:=fun x=>by simp [eI,eB,eS,eL,eP,G.pures,G.pure,Yn,Vw,Ys,K0,Xl,Xi,Xu,Jk,Zfj,Jl,X9,Zhd,Yr,Xn,Xv,Y4]
theorem Zcl {O O':Objs} {n:Nat} (xs:List Zj):wkl O O' n (fl Ys xs) (fl Ys xs):=Zgm (Yn Jy xs)
theorem Zcj {O O':Objs} {n:Nat} (xs:List Zj) (b b':List G):wkl O O' n (fl Ys xs++b) (fl Ys xs++b')=wkl O O' n b b':=Zfo b b' _ (Yn Jy xs)
theorem Zbw (xs:List Zj):(fl Ys xs).length=xs.length * 2:=Jo (f:=Ys) (k:=2) (fun _=>rfl) xs
theorem Zca (xs:List Zj):(fl Ys xs).all G.one=true:=Zac (fun x=>by simp [eI,eB,eS,eL,eP,Zh3,G.one,Value.oneCell',Ys]) xs
theorem Zcn {O O':Objs} {n:Nat} (x:Option Zj):wk O O' n (gP Ys x) (gP Ys x)=True:=Zrl Jy x
theorem Zba {k:Nat} (x:Option Zj):(gP Ys x).under k=true:=Zfm Jy k x
theorem Za7 {ρ:Nat→Nat} (xs:List Zj):G.rens ρ (fl Ys xs)=fl Ys xs:=Vl ρ _ (Yn Jy xs)
theorem Za5 {ρ:Nat→Nat} (x:Option Zj):(gP Ys x).ren ρ=gP Ys x:=Zei ρ _ (Vw Jy x)
theorem Zcg {k:Nat} (xs:List Zj):G.unders k (fl Ys xs)=true:=Qa _ _ (Yn Jy xs)
def Yz (x:Zh):List G:=[.val (.int .i64 x.Kind),.val (.int .i64 x.N),.sl x.L.length (fl Za x.L),.val (.int .i64 x.E.Kind),.val (.int .i64 x.E.Old.Kind),.sl x.E.Old.Words.length (fl (eI .u64) x.E.Old.Words),.sl x.E.Old.Kids.length (fl Za x.E.Old.Kids),.val (.int .i64 x.E.New.Kind),.sl x.E.New.Words.length (fl (eI .u64) x.E.New.Words),.sl x.E.New.Kids.length (fl Za x.E.New.Kids),.sl x.E.Words.length (fl Zl x.E.Words),.sl x.E.Kids.length (fl Zi x.E.Kids),.val (.int .i64 x.E.List_),.sl x.E.Ops.length (fl Zd x.E.Ops)]
def Vp (x:Zk):List G:=[.val (.int .i64 x.At),.val (.int .i64 x.E.Kind),.val (.int .i64 x.E.Old.Kind),.sl x.E.Old.Words.length (fl (eI .u64) x.E.Old.Words),.sl x.E.Old.Kids.length (fl Za x.E.Old.Kids),.val (.int .i64 x.E.New.Kind),.sl x.E.New.Words.length (fl (eI .u64) x.E.New.Words),.sl x.E.New.Kids.length (fl Za x.E.New.Kids),.sl x.E.Words.length (fl Zl x.E.Words),.sl x.E.Kids.length (fl Zi x.E.Kids),.val (.int .i64 x.E.List_),.sl x.E.Ops.length (fl Zd x.E.Ops)]
def Ze (x:Zc):List G:=[.val (.int .i64 x.Kind),.val (.int .i64 x.Old.Kind),.sl x.Old.Words.length (fl (eI .u64) x.Old.Words),.sl x.Old.Kids.length (fl Za x.Old.Kids),.val (.int .i64 x.New.Kind),.sl x.New.Words.length (fl (eI .u64) x.New.Words),.sl x.New.Kids.length (fl Za x.New.Kids),.sl x.Words.length (fl Zl x.Words),.sl x.Kids.length (fl Zi x.Kids),.val (.int .i64 x.List_),.sl x.Ops.length (fl Zd x.Ops)]
def Zf (x:Zb):List G:=[.val (.int .i64 x.Kind),.sl x.Words.length (fl (eI .u64) x.Words),.sl x.Kids.length (fl Za x.Kids)]
def G7 (x:Zt):List G:=[.val (.int .i64 x.At),.val (.int .u8 x.Mask),.val (.int .u64 x.Old),.val (.int .u64 x.New)]
abbrev vI (x:Int):G := .val (.int .i64 x)
abbrev vB (x:Bool):G := .val (.bool x)
abbrev nV:G := .val (.slice none 0 0)
abbrev sL {α:Type} (e:α→List G) (x:List α):G := .sl x.length (fl e x)
abbrev oR {α:Type} (t s:Nat) (e:α→List G) (x:List α):GObj:=⟨true,t,s,x.length,fl e x⟩
theorem zFn {f:FuncId} {gs:List G} {O O2:Objs} {n n2:Nat} {r:G} {fn:Func} {c:Code} (hc:∀ args w,(callFunc f args).run Try.prog w = .ok (.enter f args) w) (hf:Try.prog.funcs[f]? = some fn) (h:Und O n→O n=none→(∀ k,O (n+k)=none)→W Try.prog n c (Fin Q1 fn.results.toList r n O2 n2) ⟨fn.ntmps,[],Zhf 0 gs⟩ (Zu O n []) n) (hb:fn.body=some c:=by exact rfl) (hn:gs.length≤fn.ntmps:=by exact Nat.le_of_ble_eq_true rfl) (h2:n≤n2:=by first | exact Nat.le_refl _ | omega):GTo Try.prog f gs O n r O2 n2:=Zo2 Zz hc hf hb hn h2 fun hU=>h hU (hU.fresh _ (Nat.le_refl _)) fun k=>hU.fresh _ (Nat.le_add_right _ _)
structure Hid (p:Prop):Prop where
 get:p
structure Ar {α:Type} (a:α):Prop where
def Ar.v {α:Type} {a:α} (_:Ar a):α:=a
theorem zQ {A B:Prop} (l0:List Nat) (b:B) (e:Ar l0→Hid B→A:=by intro x0 bZ;refine Zll x0.v (Yw Zz [] ?_);simp only [push_cast,seval,↓reduceIte,Zm,Ar.v,hN0,hN];exact bZ.get):A:=e ⟨⟩ ⟨b⟩
theorem zQD {A B:Prop} (l0:List Nat) (l1:List (Option Bool)) (b:B) (e:Ar l0→Ar l1→Hid B→A:=by intro x0 x1 bZ;refine Zll x0.v (Yw Zz x1.v ?_);simp only [push_cast,seval,↓reduceIte,Zm,Ar.v,hN0,hN];(repeat (with_reducible refine And.intro (by first | (intro h0;simp only [h0,and_self];done) | (intro h0;simp only [h0,Bool.not_false,Bool.not_true,Bool.true_and,Bool.and_true,true_and,and_true,and_self,imp_self,implies_true,bne_iff_ne,ne_eq,beq_iff_eq];done) | (intros;simp_all;done) | exact True.intro) ?_));exact bZ.get):A:=e ⟨⟩ ⟨⟩ ⟨b⟩
theorem Yi {A:Prop} (l0:List G) (e:Ar l0→A:=by intro x0;refine Yg4 ?_;(try simp only [Ym,Z4]);have h:=Option.some.inj h;subst h;refine Z3b (.inr rfl) hU x0.v (by omega) ?_;simp only [push_cast,seval,↓reduceIte,Zm,Ar.v,hN0,hN]):A:=e ⟨⟩
theorem Qp {A B:Prop} (l0:List Nat) (l1:List Bool) (b:B) (e:Ar l0→Ar l1→Hid B→A:=by intro x0 x1 bZ;refine Yco ?_;(try simp only [Ym,Z4]);refine Zu5 x0.v x1.v ?_;simp only [push_cast,seval,↓reduceIte,Ar.v];exact bZ.get):A:=e ⟨⟩ ⟨⟩ ⟨b⟩
theorem zQd {A B:Prop} (l0:List Nat) (l1:List Nat) (l2:List Bool) (b:B) (e:Ar l0→Ar l1→Ar l2→Hid B→A:=by intro x0 x1 x2 bZ;refine Zll x0.v (Yw Zz [] ?_);simp only [push_cast,seval,↓reduceIte,Zm,Ar.v,hN0,hN];refine Zu5 x1.v x2.v ?_;simp only [push_cast,seval,↓reduceIte,Ar.v];exact bZ.get):A:=e ⟨⟩ ⟨⟩ ⟨⟩ ⟨b⟩
theorem Zcw {A B:Prop} (l0:List (Option Bool)) {P1:Prop} (p1:P1) {P2:Prop} (p2:P2) {P3:Prop} (p3:P3) (b:B) (e:Ar l0→P1→P2→P3→Hid B→A:=by intro x0 x1 x2 x3 bZ;refine Yw Zz x0.v ?_;simp only [push_cast,Nat.reduceAdd,Nat.reduceSub,Nat.reduceMul,Nat.reduceLeDiff,Nat.reduceLT,Nat.reduceEqDiff,↓reduceIte,reduceCtorEq,Int.reduceBEq,Int.reduceBNe,Nat.reduceBEq,Int.reduceLE,Int.reduceLT,Int.reduceEq,Int.reduceNe,Int.reduceNeg,Nat.reduceDiv,Nat.reduceMod,Nat.reducePow,Zm,Ar.v,x1,x2,x3,hN0,hN];exact bZ.get):A:=e ⟨⟩ p1 p2 p3 ⟨b⟩
theorem zF3 {A B:Prop} {P0:Prop} (p0:P0) {P1:Prop} (p1:P1) {P2:Prop} (p2:P2) (b:B) (e:P0→P1→P2→Hid B→A:=by intro x0 x1 x2 bZ;simp only [push_cast,Nat.reduceAdd,Nat.reduceSub,Nat.reduceMul,Nat.reduceLeDiff,Nat.reduceLT,Nat.reduceEqDiff,↓reduceIte,reduceCtorEq,Int.reduceBEq,Int.reduceBNe,Nat.reduceBEq,Int.reduceLE,Int.reduceLT,Int.reduceEq,Int.reduceNe,Int.reduceNeg,Nat.reduceDiv,Nat.reduceMod,Nat.reducePow,Zm,x0,x1,x2,hN0,hN];exact bZ.get):A:=e p0 p1 p2 ⟨b⟩
theorem zD {A B:Prop} (l0:List Nat) (l1:List Bool) (b:B) (e:Ar l0→Ar l1→Hid B→A:=by intro x0 x1 bZ;refine Zu5 x0.v x1.v ?_;simp only [push_cast,seval,↓reduceIte,Ar.v];exact bZ.get):A:=e ⟨⟩ ⟨⟩ ⟨b⟩
theorem zR {A B:Prop} (b:B) (e:Hid B→A:=by intro bZ;refine Yw Zz [] ?_;simp only [push_cast,seval,↓reduceIte,Zm,hN0,hN];exact bZ.get):A:=e ⟨b⟩
theorem Gw {A:Prop} {P0:Prop} (p0:P0) (e:P0→A:=by intro x0;have h9:=Option.some.inj x0;subst h9;refine And.intro rfl (Fit2.of (Ya hU rfl rfl ?_) (by omega));simp only [push_cast,seval,↓reduceIte,Zm,hN0,hN]):A:=e p0
theorem zEx {A:Prop} {P0:Prop} (p0:P0) (e:P0→A:=by intro x0;refine Ycn ?_;(try simp only [Ym,Z4,↓reduceIte,Nat.reduceEqDiff]);have h9:=Option.some.inj x0;subst h9;refine And.intro (fun h=>by cases h) (And.intro rfl (Fit2.of (Ya hU rfl rfl ?_) (by omega)));simp only [push_cast,seval,↓reduceIte,Zm,hN0,hN]):A:=e p0
theorem zCd {A B:Prop} {P0:Prop} (p0:P0) (l1:List Nat) (l2:List Bool) (b:B) (e:P0→Ar l1→Ar l2→Hid B→A:=by intro x0 x1 x2 bZ;refine Yw Zz [] ?_;simp only [push_cast,seval,↓reduceIte,Zm,hN0,hN];refine x0.then ?_;simp only [push_cast,seval,↓reduceIte,Zm,hN0,hN];refine Zu5 x1.v x2.v ?_;simp only [push_cast,seval,↓reduceIte,Ar.v];exact bZ.get):A:=e p0 ⟨⟩ ⟨⟩ ⟨b⟩
theorem zRd {A B:Prop} (l0:List Nat) (l1:List Bool) (b:B) (e:Ar l0→Ar l1→Hid B→A:=by intro x0 x1 bZ;refine Yw Zz [] ?_;simp only [push_cast,seval,↓reduceIte,Zm,hN0,hN];refine Zu5 x0.v x1.v ?_;simp only [push_cast,seval,↓reduceIte,Ar.v];exact bZ.get):A:=e ⟨⟩ ⟨⟩ ⟨b⟩
theorem zDs {A B:Prop} (l0:List Nat) (l1:List Bool) (b:B) (e:Ar l0→Ar l1→Hid B→A:=by intro x0 x1 bZ;refine Zu5 x0.v x1.v ?_;simp only [push_cast,seval,↓reduceIte,Ar.v];refine Zg ?_;exact bZ.get):A:=e ⟨⟩ ⟨⟩ ⟨b⟩
theorem zW {A B:Prop} (b:B) (e:Hid B→A:=by intro bZ;refine Yg4 ?_;(try simp only [Ym,Z4]);exact bZ.get):A:=e ⟨b⟩
theorem zEy {A:Prop} {P0:Prop} (p0:P0) (e:P0→A:=by intro x0;have h9:=Option.some.inj x0;subst h9;refine And.intro (fun h=>by cases h) (And.intro rfl (Fit2.of (Ya hU rfl rfl ?_) (by omega)));simp only [push_cast,seval,↓reduceIte,Zm,hN0,hN]):A:=e p0
theorem zX1 {A B:Prop} {P0:Prop} (p0:P0) (b:B) (e:P0→Hid B→A:=by intro x0 bZ;simp only [push_cast,seval,↓reduceIte,Zm,x0,hN0,hN];exact bZ.get):A:=e p0 ⟨b⟩
theorem zG {A B:Prop} (b:B) (e:Hid B→A:=by intro bZ;(repeat (with_reducible refine And.intro (by first | (intro h0;simp only [h0,and_self];done) | (intro h0;simp only [h0,Bool.not_false,Bool.not_true,Bool.true_and,Bool.and_true,true_and,and_true,and_self,imp_self,implies_true,bne_iff_ne,ne_eq,beq_iff_eq];done) | (intros;simp_all;done) | exact True.intro) ?_));exact bZ.get):A:=e ⟨b⟩
theorem Qm {A:Prop} {P0:Prop} (p0:P0) {P1:Prop} (p1:P1) (e:P0→P1→A:=by intro x0 x1;have h9:=Option.some.inj x0;subst h9;refine And.intro rfl (Fit2.of (Ya hU rfl rfl ?_) (by omega));simp only [push_cast,seval,↓reduceIte,Zm,x1,hN0,hN]):A:=e p0 p1
theorem zX3 {A B:Prop} {P0:Prop} (p0:P0) {P1:Prop} (p1:P1) {P2:Prop} (p2:P2) (b:B) (e:P0→P1→P2→Hid B→A:=by intro x0 x1 x2 bZ;simp only [push_cast,seval,↓reduceIte,Zm,x0,x1,x2,hN0,hN];exact bZ.get):A:=e p0 p1 p2 ⟨b⟩
theorem Zej {A:Prop} {P0:Prop} (p0:P0) {P1:Prop} (p1:P1) {P2:Prop} (p2:P2) {P3:Prop} (p3:P3) (e:P0→P1→P2→P3→A:=by intro x0 x1 x2 x3;have h9:=Option.some.inj x0;subst h9;refine And.intro rfl (Fit2.of (Ya hU rfl rfl ?_) (by omega));simp only [push_cast,seval,↓reduceIte,Zm,x1,x2,x3,hN0,hN]):A:=e p0 p1 p2 p3
theorem zF8 {A B:Prop} {P0:Prop} (p0:P0) {P1:Prop} (p1:P1) {P2:Prop} (p2:P2) {P3:Prop} (p3:P3) {P4:Prop} (p4:P4) {P5:Prop} (p5:P5) {P6:Prop} (p6:P6) {P7:Prop} (p7:P7) (b:B) (e:P0→P1→P2→P3→P4→P5→P6→P7→Hid B→A:=by intro x0 x1 x2 x3 x4 x5 x6 x7 bZ;simp only [push_cast,Nat.reduceAdd,Nat.reduceSub,Nat.reduceMul,Nat.reduceLeDiff,Nat.reduceLT,Nat.reduceEqDiff,↓reduceIte,reduceCtorEq,Int.reduceBEq,Int.reduceBNe,Nat.reduceBEq,Int.reduceLE,Int.reduceLT,Int.reduceEq,Int.reduceNe,Int.reduceNeg,Nat.reduceDiv,Nat.reduceMod,Nat.reducePow,Zm,x0,x1,x2,x3,x4,x5,x6,x7,hN0,hN];exact bZ.get):A:=e p0 p1 p2 p3 p4 p5 p6 p7 ⟨b⟩
theorem Yhi {A:Prop} {P0:Prop} (p0:P0) {P1:Prop} (p1:P1) {P2:Prop} (p2:P2) {P3:Prop} (p3:P3) {P4:Prop} (p4:P4) {P5:Prop} (p5:P5) {P6:Prop} (p6:P6) {P7:Prop} (p7:P7) {P8:Prop} (p8:P8) (e:P0→P1→P2→P3→P4→P5→P6→P7→P8→A:=by intro x0 x1 x2 x3 x4 x5 x6 x7 x8;have h9:=Option.some.inj x0;subst h9;refine And.intro rfl (Fit2.of (Ya hU rfl rfl ?_) (by omega));simp only [push_cast,Nat.reduceAdd,Nat.reduceSub,Nat.reduceMul,Nat.reduceLeDiff,Nat.reduceLT,Nat.reduceEqDiff,↓reduceIte,reduceCtorEq,Int.reduceBEq,Int.reduceBNe,Nat.reduceBEq,Int.reduceLE,Int.reduceLT,Int.reduceEq,Int.reduceNe,Int.reduceNeg,Nat.reduceDiv,Nat.reduceMod,Nat.reducePow,Zm,x1,x2,x3,x4,x5,x6,x7,x8,hN0,hN]):A:=e p0 p1 p2 p3 p4 p5 p6 p7 p8
theorem zX5 {A B:Prop} {P0:Prop} (p0:P0) {P1:Prop} (p1:P1) {P2:Prop} (p2:P2) {P3:Prop} (p3:P3) {P4:Prop} (p4:P4) (b:B) (e:P0→P1→P2→P3→P4→Hid B→A:=by intro x0 x1 x2 x3 x4 bZ;simp only [push_cast,seval,↓reduceIte,Zm,x0,x1,x2,x3,x4,hN0,hN];exact bZ.get):A:=e p0 p1 p2 p3 p4 ⟨b⟩
theorem Zwk {A:Prop} {P0:Prop} (p0:P0) {P1:Prop} (p1:P1) {P2:Prop} (p2:P2) {P3:Prop} (p3:P3) {P4:Prop} (p4:P4) {P5:Prop} (p5:P5) (e:P0→P1→P2→P3→P4→P5→A:=by intro x0 x1 x2 x3 x4 x5;have h9:=Option.some.inj x0;subst h9;refine And.intro rfl (Fit2.of (Ya hU rfl rfl ?_) (by omega));simp only [push_cast,seval,↓reduceIte,Zm,x1,x2,x3,x4,x5,hN0,hN]):A:=e p0 p1 p2 p3 p4 p5
theorem zX4 {A B:Prop} {P0:Prop} (p0:P0) {P1:Prop} (p1:P1) {P2:Prop} (p2:P2) {P3:Prop} (p3:P3) (b:B) (e:P0→P1→P2→P3→Hid B→A:=by intro x0 x1 x2 x3 bZ;simp only [push_cast,seval,↓reduceIte,Zm,x0,x1,x2,x3,hN0,hN];exact bZ.get):A:=e p0 p1 p2 p3 ⟨b⟩
theorem Zmr {A:Prop} {P0:Prop} (p0:P0) {P1:Prop} (p1:P1) {P2:Prop} (p2:P2) {P3:Prop} (p3:P3) {P4:Prop} (p4:P4) (e:P0→P1→P2→P3→P4→A:=by intro x0 x1 x2 x3 x4;have h9:=Option.some.inj x0;subst h9;refine And.intro rfl (Fit2.of (Ya hU rfl rfl ?_) (by omega));simp only [push_cast,seval,↓reduceIte,Zm,x1,x2,x3,x4,hN0,hN]):A:=e p0 p1 p2 p3 p4
theorem zF7 {A B:Prop} {P0:Prop} (p0:P0) {P1:Prop} (p1:P1) {P2:Prop} (p2:P2) {P3:Prop} (p3:P3) {P4:Prop} (p4:P4) {P5:Prop} (p5:P5) {P6:Prop} (p6:P6) (b:B) (e:P0→P1→P2→P3→P4→P5→P6→Hid B→A:=by intro x0 x1 x2 x3 x4 x5 x6 bZ;simp only [push_cast,Nat.reduceAdd,Nat.reduceSub,Nat.reduceMul,Nat.reduceLeDiff,Nat.reduceLT,Nat.reduceEqDiff,↓reduceIte,reduceCtorEq,Int.reduceBEq,Int.reduceBNe,Nat.reduceBEq,Int.reduceLE,Int.reduceLT,Int.reduceEq,Int.reduceNe,Int.reduceNeg,Nat.reduceDiv,Nat.reduceMod,Nat.reducePow,Zm,x0,x1,x2,x3,x4,x5,x6,hN0,hN];exact bZ.get):A:=e p0 p1 p2 p3 p4 p5 p6 ⟨b⟩
theorem Ybm {A:Prop} {P0:Prop} (p0:P0) {P1:Prop} (p1:P1) {P2:Prop} (p2:P2) {P3:Prop} (p3:P3) {P4:Prop} (p4:P4) {P5:Prop} (p5:P5) {P6:Prop} (p6:P6) {P7:Prop} (p7:P7) (e:P0→P1→P2→P3→P4→P5→P6→P7→A:=by intro x0 x1 x2 x3 x4 x5 x6 x7;have h9:=Option.some.inj x0;subst h9;refine And.intro rfl (Fit2.of (Ya hU rfl rfl ?_) (by omega));simp only [push_cast,Nat.reduceAdd,Nat.reduceSub,Nat.reduceMul,Nat.reduceLeDiff,Nat.reduceLT,Nat.reduceEqDiff,↓reduceIte,reduceCtorEq,Int.reduceBEq,Int.reduceBNe,Nat.reduceBEq,Int.reduceLE,Int.reduceLT,Int.reduceEq,Int.reduceNe,Int.reduceNeg,Nat.reduceDiv,Nat.reduceMod,Nat.reducePow,Zm,x1,x2,x3,x4,x5,x6,x7,hN0,hN]):A:=e p0 p1 p2 p3 p4 p5 p6 p7
theorem Zgn {A:Prop} (l0:List G) (e:Ar l0→A:=by intro x0;have h:=Option.some.inj h;subst h;refine Z3b (.inr rfl) hU x0.v (by omega) ?_;simp only [push_cast,seval,↓reduceIte,Zm,Ar.v,hN0,hN]):A:=e ⟨⟩
theorem Jb {A B:Prop} (l0:List (Option Bool)) {P1:Prop} (p1:P1) (b:B) (e:Ar l0→P1→Hid B→A:=by intro x0 x1 bZ;refine Yw Zz x0.v ?_;simp only [push_cast,seval,↓reduceIte,Zm,Ar.v,x1,hN0,hN];exact bZ.get):A:=e ⟨⟩ p1 ⟨b⟩
theorem zC {A B:Prop} {P0:Prop} (p0:P0) (b:B) (e:P0→Hid B→A:=by intro x0 bZ;refine Yw Zz [] ?_;simp only [push_cast,seval,↓reduceIte,Zm,hN0,hN];refine x0.then ?_;simp only [push_cast,seval,↓reduceIte,Zm,hN0,hN];exact bZ.get):A:=e p0 ⟨b⟩
theorem zK {A B:Prop} (b:B) (e:Hid B→A:=by intro bZ;refine Yco ?_;(try simp only [Ym,Z4]);exact bZ.get):A:=e ⟨b⟩
theorem Zrm {A B:Prop} (l0:List (Option Bool)) {P1:Prop} (p1:P1) {P2:Prop} (p2:P2) {P3:Prop} (p3:P3) {P4:Prop} (p4:P4) (b:B) (e:Ar l0→P1→P2→P3→P4→Hid B→A:=by intro x0 x1 x2 x3 x4 bZ;refine Yw Zz x0.v ?_;simp only [push_cast,Nat.reduceAdd,Nat.reduceSub,Nat.reduceMul,Nat.reduceLeDiff,Nat.reduceLT,Nat.reduceEqDiff,↓reduceIte,reduceCtorEq,Int.reduceBEq,Int.reduceBNe,Nat.reduceBEq,Int.reduceLE,Int.reduceLT,Int.reduceEq,Int.reduceNe,Int.reduceNeg,Nat.reduceDiv,Nat.reduceMod,Nat.reducePow,Zm,Ar.v,x1,x2,x3,x4,hN0,hN];exact bZ.get):A:=e ⟨⟩ p1 p2 p3 p4 ⟨b⟩
theorem zF4 {A B:Prop} {P0:Prop} (p0:P0) {P1:Prop} (p1:P1) {P2:Prop} (p2:P2) {P3:Prop} (p3:P3) (b:B) (e:P0→P1→P2→P3→Hid B→A:=by intro x0 x1 x2 x3 bZ;simp only [push_cast,Nat.reduceAdd,Nat.reduceSub,Nat.reduceMul,Nat.reduceLeDiff,Nat.reduceLT,Nat.reduceEqDiff,↓reduceIte,reduceCtorEq,Int.reduceBEq,Int.reduceBNe,Nat.reduceBEq,Int.reduceLE,Int.reduceLT,Int.reduceEq,Int.reduceNe,Int.reduceNeg,Nat.reduceDiv,Nat.reduceMod,Nat.reducePow,Zm,x0,x1,x2,x3,hN0,hN];exact bZ.get):A:=e p0 p1 p2 p3 ⟨b⟩
theorem Ybp {A B:Prop} (l0:List (Option Bool)) {P1:Prop} (p1:P1) {P2:Prop} (p2:P2) {P3:Prop} (p3:P3) {P4:Prop} (p4:P4) {P5:Prop} (p5:P5) {P6:Prop} (p6:P6) {P7:Prop} (p7:P7) (b:B) (e:Ar l0→P1→P2→P3→P4→P5→P6→P7→Hid B→A:=by intro x0 x1 x2 x3 x4 x5 x6 x7 bZ;refine Yw Zz x0.v ?_;simp only [push_cast,Nat.reduceAdd,Nat.reduceSub,Nat.reduceMul,Nat.reduceLeDiff,Nat.reduceLT,Nat.reduceEqDiff,↓reduceIte,reduceCtorEq,Int.reduceBEq,Int.reduceBNe,Nat.reduceBEq,Int.reduceLE,Int.reduceLT,Int.reduceEq,Int.reduceNe,Int.reduceNeg,Nat.reduceDiv,Nat.reduceMod,Nat.reducePow,Zm,Ar.v,x1,x2,x3,x4,x5,x6,x7,hN0,hN];exact bZ.get):A:=e ⟨⟩ p1 p2 p3 p4 p5 p6 p7 ⟨b⟩
theorem Ybl {A:Prop} {P0:Prop} (p0:P0) {P1:Prop} (p1:P1) {P2:Prop} (p2:P2) {P3:Prop} (p3:P3) {P4:Prop} (p4:P4) (e:P0→P1→P2→P3→P4→A:=by intro x0 x1 x2 x3 x4;have h9:=Option.some.inj x0;subst h9;refine And.intro rfl (Fit2.of (Ya hU rfl rfl ?_) (by omega));simp only [push_cast,Nat.reduceAdd,Nat.reduceSub,Nat.reduceMul,Nat.reduceLeDiff,Nat.reduceLT,Nat.reduceEqDiff,↓reduceIte,reduceCtorEq,Int.reduceBEq,Int.reduceBNe,Nat.reduceBEq,Int.reduceLE,Int.reduceLT,Int.reduceEq,Int.reduceNe,Int.reduceNeg,Nat.reduceDiv,Nat.reduceMod,Nat.reducePow,Zm,x1,x2,x3,x4,hN0,hN]):A:=e p0 p1 p2 p3 p4
theorem Ylq {A B:Prop} (l0:List Nat) {P1:Prop} (p1:P1) (b:B) (e:Ar l0→P1→Hid B→A:=by intro x0 x1 bZ;refine Zll x0.v (Yw Zz [] ?_);simp only [push_cast,seval,↓reduceIte,Zm,Ar.v,x1,hN0,hN];exact bZ.get):A:=e ⟨⟩ p1 ⟨b⟩
theorem Zbf {A B:Prop} (l0:List (Option Bool)) {P1:Prop} (p1:P1) {P2:Prop} (p2:P2) {P3:Prop} (p3:P3) (b:B) (e:Ar l0→P1→P2→P3→Hid B→A:=by intro x0 x1 x2 x3 bZ;refine Yw Zz x0.v ?_;simp only [push_cast,seval,↓reduceIte,Zm,Ar.v,x1,x2,x3,hN0,hN];exact bZ.get):A:=e ⟨⟩ p1 p2 p3 ⟨b⟩
theorem Jn {A B:Prop} (l0:List (Option Bool)) {P1:Prop} (p1:P1) {P2:Prop} (p2:P2) (b:B) (e:Ar l0→P1→P2→Hid B→A:=by intro x0 x1 x2 bZ;refine Yw Zz x0.v ?_;simp only [push_cast,seval,↓reduceIte,Zm,Ar.v,x1,x2,hN0,hN];exact bZ.get):A:=e ⟨⟩ p1 p2 ⟨b⟩
theorem Zms {A B:Prop} (l0:List (Option Bool)) {P1:Prop} (p1:P1) {P2:Prop} (p2:P2) {P3:Prop} (p3:P3) {P4:Prop} (p4:P4) (b:B) (e:Ar l0→P1→P2→P3→P4→Hid B→A:=by intro x0 x1 x2 x3 x4 bZ;refine Yw Zz x0.v ?_;simp only [push_cast,seval,↓reduceIte,Zm,Ar.v,x1,x2,x3,x4,hN0,hN];exact bZ.get):A:=e ⟨⟩ p1 p2 p3 p4 ⟨b⟩
theorem Js {A:Prop} {P0:Prop} (p0:P0) {P1:Prop} (p1:P1) (e:P0→P1→A:=by intro x0 x1;simp only [push_cast,seval,↓reduceIte,Zm,x0,x1,hN0,hN]):A:=e p0 p1
theorem zX2 {A B:Prop} {P0:Prop} (p0:P0) {P1:Prop} (p1:P1) (b:B) (e:P0→P1→Hid B→A:=by intro x0 x1 bZ;simp only [push_cast,seval,↓reduceIte,Zm,x0,x1,hN0,hN];exact bZ.get):A:=e p0 p1 ⟨b⟩
theorem U2 {A:Prop} {P0:Prop} (p0:P0) {P1:Prop} (p1:P1) {P2:Prop} (p2:P2) (e:P0→P1→P2→A:=by intro x0 x1 x2;have h9:=Option.some.inj x0;subst h9;refine And.intro rfl (Fit2.of (Ya hU rfl rfl ?_) (by omega));simp only [push_cast,seval,↓reduceIte,Zm,x1,x2,hN0,hN]):A:=e p0 p1 p2
theorem Ykf {A:Prop} {P0:Prop} (p0:P0) {P1:Prop} (p1:P1) {P2:Prop} (p2:P2) {P3:Prop} (p3:P3) (e:P0→P1→P2→P3→A:=by intro x0 x1 x2 x3;simp only [push_cast,seval,↓reduceIte,Zm,x0,x1,x2,x3,hN0,hN]):A:=e p0 p1 p2 p3
theorem zSe {A:Prop} (e:A:=by simp only [push_cast,seval,↓reduceIte,Zm,hN0,hN]):A:=e
theorem Z16 {A:Prop} {P0:Prop} (p0:P0) {P1:Prop} (p1:P1) {P2:Prop} (p2:P2) (e:P0→P1→P2→A:=by intro x0 x1 x2;simp only [push_cast,seval,↓reduceIte,Zm,x0,x1,x2,hN0,hN]):A:=e p0 p1 p2
theorem zS {A B:Prop} (b:B) (e:Hid B→A:=by intro bZ;simp only [push_cast,seval,↓reduceIte,Zm,hN0,hN];exact bZ.get):A:=e ⟨b⟩
theorem zO {A B:Prop} (b:B) (e:Hid B→A:=by intro bZ;(repeat (with_reducible refine And.intro (by first | omega | exact V4 rfl | exact Ko | exact Ybu rfl | exact Z6b rfl rfl | exact Zzf rfl | exact Z6a rfl) ?_));exact bZ.get):A:=e ⟨b⟩
theorem Ykd {A B:Prop} (l0:List Nat) {P1:Prop} (p1:P1) {P2:Prop} (p2:P2) {P3:Prop} (p3:P3) {P4:Prop} (p4:P4) (b:B) (e:Ar l0→P1→P2→P3→P4→Hid B→A:=by intro x0 x1 x2 x3 x4 bZ;refine Zll x0.v (Yw Zz [] ?_);simp only [push_cast,seval,↓reduceIte,Zm,Ar.v,x1,x2,x3,x4,hN0,hN];exact bZ.get):A:=e ⟨⟩ p1 p2 p3 p4 ⟨b⟩
theorem Ybn {A B:Prop} (l0:List (Option Bool)) {P1:Prop} (p1:P1) {P2:Prop} (p2:P2) {P3:Prop} (p3:P3) {P4:Prop} (p4:P4) {P5:Prop} (p5:P5) (b:B) (e:Ar l0→P1→P2→P3→P4→P5→Hid B→A:=by intro x0 x1 x2 x3 x4 x5 bZ;refine Yw Zz x0.v ?_;simp only [push_cast,Nat.reduceAdd,Nat.reduceSub,Nat.reduceMul,Nat.reduceLeDiff,Nat.reduceLT,Nat.reduceEqDiff,↓reduceIte,reduceCtorEq,Int.reduceBEq,Int.reduceBNe,Nat.reduceBEq,Int.reduceLE,Int.reduceLT,Int.reduceEq,Int.reduceNe,Int.reduceNeg,Nat.reduceDiv,Nat.reduceMod,Nat.reducePow,Zm,Ar.v,x1,x2,x3,x4,x5,hN0,hN];exact bZ.get):A:=e ⟨⟩ p1 p2 p3 p4 p5 ⟨b⟩
theorem Yfa {A:Prop} {P0:Prop} (p0:P0) {P1:Prop} (p1:P1) {P2:Prop} (p2:P2) {P3:Prop} (p3:P3) {P4:Prop} (p4:P4) {P5:Prop} (p5:P5) (e:P0→P1→P2→P3→P4→P5→A:=by intro x0 x1 x2 x3 x4 x5;have h9:=Option.some.inj x0;subst h9;refine And.intro rfl (Fit2.of (Ya hU rfl rfl ?_) (by omega));simp only [push_cast,Nat.reduceAdd,Nat.reduceSub,Nat.reduceMul,Nat.reduceLeDiff,Nat.reduceLT,Nat.reduceEqDiff,↓reduceIte,reduceCtorEq,Int.reduceBEq,Int.reduceBNe,Nat.reduceBEq,Int.reduceLE,Int.reduceLT,Int.reduceEq,Int.reduceNe,Int.reduceNeg,Nat.reduceDiv,Nat.reduceMod,Nat.reducePow,Zm,x1,x2,x3,x4,x5,hN0,hN]):A:=e p0 p1 p2 p3 p4 p5
theorem zTs {A B:Prop} {P0:Prop} (p0:P0) (b:B) (e:P0→Hid B→A:=by intro x0 bZ;refine x0.then ?_;simp only [push_cast,seval,↓reduceIte,Zm,hN0,hN];exact bZ.get):A:=e p0 ⟨b⟩
theorem Zg7 {A B:Prop} (l0:List Nat) {P1:Prop} (p1:P1) {P2:Prop} (p2:P2) (b:B) (e:Ar l0→P1→P2→Hid B→A:=by intro x0 x1 x2 bZ;refine Zll x0.v (Yw Zz [] ?_);simp only [push_cast,seval,↓reduceIte,Zm,Ar.v,x1,x2,hN0,hN];exact bZ.get):A:=e ⟨⟩ p1 p2 ⟨b⟩
theorem zF9 {A B:Prop} {P0:Prop} (p0:P0) {P1:Prop} (p1:P1) {P2:Prop} (p2:P2) {P3:Prop} (p3:P3) {P4:Prop} (p4:P4) {P5:Prop} (p5:P5) {P6:Prop} (p6:P6) {P7:Prop} (p7:P7) {P8:Prop} (p8:P8) (b:B) (e:P0→P1→P2→P3→P4→P5→P6→P7→P8→Hid B→A:=by intro x0 x1 x2 x3 x4 x5 x6 x7 x8 bZ;simp only [push_cast,Nat.reduceAdd,Nat.reduceSub,Nat.reduceMul,Nat.reduceLeDiff,Nat.reduceLT,Nat.reduceEqDiff,↓reduceIte,reduceCtorEq,Int.reduceBEq,Int.reduceBNe,Nat.reduceBEq,Int.reduceLE,Int.reduceLT,Int.reduceEq,Int.reduceNe,Int.reduceNeg,Nat.reduceDiv,Nat.reduceMod,Nat.reducePow,Zm,x0,x1,x2,x3,x4,x5,x6,x7,x8,hN0,hN];exact bZ.get):A:=e p0 p1 p2 p3 p4 p5 p6 p7 p8 ⟨b⟩
theorem Z15 {A:Prop} {P0:Prop} (p0:P0) {P1:Prop} (p1:P1) {P2:Prop} (p2:P2) {P3:Prop} (p3:P3) {P4:Prop} (p4:P4) {P5:Prop} (p5:P5) {P6:Prop} (p6:P6) {P7:Prop} (p7:P7) {P8:Prop} (p8:P8) (e:P0→P1→P2→P3→P4→P5→P6→P7→P8→A:=by intro x0 x1 x2 x3 x4 x5 x6 x7 x8;simp only [push_cast,Nat.reduceAdd,Nat.reduceSub,Nat.reduceMul,Nat.reduceLeDiff,Nat.reduceLT,Nat.reduceEqDiff,↓reduceIte,reduceCtorEq,Int.reduceBEq,Int.reduceBNe,Nat.reduceBEq,Int.reduceLE,Int.reduceLT,Int.reduceEq,Int.reduceNe,Int.reduceNeg,Nat.reduceDiv,Nat.reduceMod,Nat.reducePow,Zm,x0,x1,x2,x3,x4,x5,x6,x7,x8,hN0,hN]):A:=e p0 p1 p2 p3 p4 p5 p6 p7 p8
theorem zXt {A B:Prop} (b:B) (e:Hid B→A:=by intro bZ;refine Ycn ?_;(try simp only [Ym,Z4,↓reduceIte,Nat.reduceEqDiff]);exact bZ.get):A:=e ⟨b⟩
theorem zRo {A B:Prop} (l0:List (Option Bool)) (b:B) (e:Ar l0→Hid B→A:=by intro x0 bZ;refine Yw Zz x0.v ?_;simp only [push_cast,seval,↓reduceIte,Zm,Ar.v,hN0,hN];exact bZ.get):A:=e ⟨⟩ ⟨b⟩
theorem zF5 {A B:Prop} {P0:Prop} (p0:P0) {P1:Prop} (p1:P1) {P2:Prop} (p2:P2) {P3:Prop} (p3:P3) {P4:Prop} (p4:P4) (b:B) (e:P0→P1→P2→P3→P4→Hid B→A:=by intro x0 x1 x2 x3 x4 bZ;simp only [push_cast,Nat.reduceAdd,Nat.reduceSub,Nat.reduceMul,Nat.reduceLeDiff,Nat.reduceLT,Nat.reduceEqDiff,↓reduceIte,reduceCtorEq,Int.reduceBEq,Int.reduceBNe,Nat.reduceBEq,Int.reduceLE,Int.reduceLT,Int.reduceEq,Int.reduceNe,Int.reduceNeg,Nat.reduceDiv,Nat.reduceMod,Nat.reducePow,Zm,x0,x1,x2,x3,x4,hN0,hN];exact bZ.get):A:=e p0 p1 p2 p3 p4 ⟨b⟩
theorem Ych {A:Prop} {P0:Prop} (p0:P0) (e:P0→A:=by intro x0;simp only [push_cast,seval,↓reduceIte,Zm,x0,hN0,hN]):A:=e p0
theorem Ybq {A B:Prop} (l0:List (Option Bool)) {P1:Prop} (p1:P1) {P2:Prop} (p2:P2) {P3:Prop} (p3:P3) {P4:Prop} (p4:P4) {P5:Prop} (p5:P5) {P6:Prop} (p6:P6) (b:B) (e:Ar l0→P1→P2→P3→P4→P5→P6→Hid B→A:=by intro x0 x1 x2 x3 x4 x5 x6 bZ;refine Yw Zz x0.v ?_;simp only [push_cast,seval,↓reduceIte,Zm,Ar.v,x1,x2,x3,x4,x5,x6,hN0,hN];exact bZ.get):A:=e ⟨⟩ p1 p2 p3 p4 p5 p6 ⟨b⟩
theorem Yhj {A:Prop} {P0:Prop} (p0:P0) {P1:Prop} (p1:P1) {P2:Prop} (p2:P2) {P3:Prop} (p3:P3) {P4:Prop} (p4:P4) {P5:Prop} (p5:P5) {P6:Prop} (p6:P6) (e:P0→P1→P2→P3→P4→P5→P6→A:=by intro x0 x1 x2 x3 x4 x5 x6;have h9:=Option.some.inj x0;subst h9;refine And.intro rfl (Fit2.of (Ya hU rfl rfl ?_) (by omega));simp only [push_cast,seval,↓reduceIte,Zm,x1,x2,x3,x4,x5,x6,hN0,hN]):A:=e p0 p1 p2 p3 p4 p5 p6
theorem zX6 {A B:Prop} {P0:Prop} (p0:P0) {P1:Prop} (p1:P1) {P2:Prop} (p2:P2) {P3:Prop} (p3:P3) {P4:Prop} (p4:P4) {P5:Prop} (p5:P5) (b:B) (e:P0→P1→P2→P3→P4→P5→Hid B→A:=by intro x0 x1 x2 x3 x4 x5 bZ;simp only [push_cast,seval,↓reduceIte,Zm,x0,x1,x2,x3,x4,x5,hN0,hN];exact bZ.get):A:=e p0 p1 p2 p3 p4 p5 ⟨b⟩
theorem Z22 {A B:Prop} (l0:List (Option Bool)) {P1:Prop} (p1:P1) {P2:Prop} (p2:P2) {P3:Prop} (p3:P3) {P4:Prop} (p4:P4) {P5:Prop} (p5:P5) (b:B) (e:Ar l0→P1→P2→P3→P4→P5→Hid B→A:=by intro x0 x1 x2 x3 x4 x5 bZ;refine Yw Zz x0.v ?_;simp only [push_cast,seval,↓reduceIte,Zm,Ar.v,x1,x2,x3,x4,x5,hN0,hN];exact bZ.get):A:=e ⟨⟩ p1 p2 p3 p4 p5 ⟨b⟩
theorem Ykc {A:Prop} {P0:Prop} (p0:P0) {P1:Prop} (p1:P1) {P2:Prop} (p2:P2) (e:P0→P1→P2→A:=by intro x0 x1 x2;simp only [push_cast,Nat.reduceAdd,Nat.reduceSub,Nat.reduceMul,Nat.reduceLeDiff,Nat.reduceLT,Nat.reduceEqDiff,↓reduceIte,reduceCtorEq,Int.reduceBEq,Int.reduceBNe,Nat.reduceBEq,Int.reduceLE,Int.reduceLT,Int.reduceEq,Int.reduceNe,Int.reduceNeg,Nat.reduceDiv,Nat.reduceMod,Nat.reducePow,Zm,x0,x1,x2,hN0,hN]):A:=e p0 p1 p2
theorem Yii {A B:Prop} {P0:Prop} (p0:P0) {P1:Prop} (p1:P1) {P2:Prop} (p2:P2) {P3:Prop} (p3:P3) {P4:Prop} (p4:P4) {P5:Prop} (p5:P5) {P6:Prop} (p6:P6) {P7:Prop} (p7:P7) {P8:Prop} (p8:P8) {P9:Prop} (p9:P9) {P10:Prop} (p10:P10) (b:B) (e:P0→P1→P2→P3→P4→P5→P6→P7→P8→P9→P10→Hid B→A:=by intro x0 x1 x2 x3 x4 x5 x6 x7 x8 x9 x10 bZ;simp only [push_cast,Nat.reduceAdd,Nat.reduceSub,Nat.reduceMul,Nat.reduceLeDiff,Nat.reduceLT,Nat.reduceEqDiff,↓reduceIte,reduceCtorEq,Int.reduceBEq,Int.reduceBNe,Nat.reduceBEq,Int.reduceLE,Int.reduceLT,Int.reduceEq,Int.reduceNe,Int.reduceNeg,Nat.reduceDiv,Nat.reduceMod,Nat.reducePow,Zm,x0,x1,x2,x3,x4,x5,x6,x7,x8,x9,x10,hN0,hN];exact bZ.get):A:=e p0 p1 p2 p3 p4 p5 p6 p7 p8 p9 p10 ⟨b⟩
theorem Yhk {A:Prop} {P0:Prop} (p0:P0) {P1:Prop} (p1:P1) {P2:Prop} (p2:P2) {P3:Prop} (p3:P3) {P4:Prop} (p4:P4) {P5:Prop} (p5:P5) {P6:Prop} (p6:P6) {P7:Prop} (p7:P7) {P8:Prop} (p8:P8) {P9:Prop} (p9:P9) {P10:Prop} (p10:P10) (e:P0→P1→P2→P3→P4→P5→P6→P7→P8→P9→P10→A:=by intro x0 x1 x2 x3 x4 x5 x6 x7 x8 x9 x10;simp only [push_cast,Nat.reduceAdd,Nat.reduceSub,Nat.reduceMul,Nat.reduceLeDiff,Nat.reduceLT,Nat.reduceEqDiff,↓reduceIte,reduceCtorEq,Int.reduceBEq,Int.reduceBNe,Nat.reduceBEq,Int.reduceLE,Int.reduceLT,Int.reduceEq,Int.reduceNe,Int.reduceNeg,Nat.reduceDiv,Nat.reduceMod,Nat.reducePow,Zm,x0,x1,x2,x3,x4,x5,x6,x7,x8,x9,x10,hN0,hN]):A:=e p0 p1 p2 p3 p4 p5 p6 p7 p8 p9 p10
theorem Ylo {A B:Prop} {P0:Prop} (p0:P0) {P1:Prop} (p1:P1) {P2:Prop} (p2:P2) {P3:Prop} (p3:P3) {P4:Prop} (p4:P4) {P5:Prop} (p5:P5) {P6:Prop} (p6:P6) {P7:Prop} (p7:P7) {P8:Prop} (p8:P8) {P9:Prop} (p9:P9) (b:B) (e:P0→P1→P2→P3→P4→P5→P6→P7→P8→P9→Hid B→A:=by intro x0 x1 x2 x3 x4 x5 x6 x7 x8 x9 bZ;simp only [push_cast,Nat.reduceAdd,Nat.reduceSub,Nat.reduceMul,Nat.reduceLeDiff,Nat.reduceLT,Nat.reduceEqDiff,↓reduceIte,reduceCtorEq,Int.reduceBEq,Int.reduceBNe,Nat.reduceBEq,Int.reduceLE,Int.reduceLT,Int.reduceEq,Int.reduceNe,Int.reduceNeg,Nat.reduceDiv,Nat.reduceMod,Nat.reducePow,Zm,x0,x1,x2,x3,x4,x5,x6,x7,x8,x9,hN0,hN];exact bZ.get):A:=e p0 p1 p2 p3 p4 p5 p6 p7 p8 p9 ⟨b⟩
theorem Ykb {A:Prop} {P0:Prop} (p0:P0) {P1:Prop} (p1:P1) {P2:Prop} (p2:P2) {P3:Prop} (p3:P3) {P4:Prop} (p4:P4) {P5:Prop} (p5:P5) {P6:Prop} (p6:P6) {P7:Prop} (p7:P7) {P8:Prop} (p8:P8) {P9:Prop} (p9:P9) (e:P0→P1→P2→P3→P4→P5→P6→P7→P8→P9→A:=by intro x0 x1 x2 x3 x4 x5 x6 x7 x8 x9;simp only [push_cast,Nat.reduceAdd,Nat.reduceSub,Nat.reduceMul,Nat.reduceLeDiff,Nat.reduceLT,Nat.reduceEqDiff,↓reduceIte,reduceCtorEq,Int.reduceBEq,Int.reduceBNe,Nat.reduceBEq,Int.reduceLE,Int.reduceLT,Int.reduceEq,Int.reduceNe,Int.reduceNeg,Nat.reduceDiv,Nat.reduceMod,Nat.reducePow,Zm,x0,x1,x2,x3,x4,x5,x6,x7,x8,x9,hN0,hN]):A:=e p0 p1 p2 p3 p4 p5 p6 p7 p8 p9
theorem zF6 {A B:Prop} {P0:Prop} (p0:P0) {P1:Prop} (p1:P1) {P2:Prop} (p2:P2) {P3:Prop} (p3:P3) {P4:Prop} (p4:P4) {P5:Prop} (p5:P5) (b:B) (e:P0→P1→P2→P3→P4→P5→Hid B→A:=by intro x0 x1 x2 x3 x4 x5 bZ;simp only [push_cast,Nat.reduceAdd,Nat.reduceSub,Nat.reduceMul,Nat.reduceLeDiff,Nat.reduceLT,Nat.reduceEqDiff,↓reduceIte,reduceCtorEq,Int.reduceBEq,Int.reduceBNe,Nat.reduceBEq,Int.reduceLE,Int.reduceLT,Int.reduceEq,Int.reduceNe,Int.reduceNeg,Nat.reduceDiv,Nat.reduceMod,Nat.reducePow,Zm,x0,x1,x2,x3,x4,x5,hN0,hN];exact bZ.get):A:=e p0 p1 p2 p3 p4 p5 ⟨b⟩
theorem Ykg {A:Prop} {P0:Prop} (p0:P0) {P1:Prop} (p1:P1) {P2:Prop} (p2:P2) {P3:Prop} (p3:P3) {P4:Prop} (p4:P4) (e:P0→P1→P2→P3→P4→A:=by intro x0 x1 x2 x3 x4;simp only [push_cast,seval,↓reduceIte,Zm,x0,x1,x2,x3,x4,hN0,hN]):A:=e p0 p1 p2 p3 p4
theorem Ybo {A B:Prop} (l0:List (Option Bool)) {P1:Prop} (p1:P1) {P2:Prop} (p2:P2) {P3:Prop} (p3:P3) {P4:Prop} (p4:P4) {P5:Prop} (p5:P5) {P6:Prop} (p6:P6) (b:B) (e:Ar l0→P1→P2→P3→P4→P5→P6→Hid B→A:=by intro x0 x1 x2 x3 x4 x5 x6 bZ;refine Yw Zz x0.v ?_;simp only [push_cast,Nat.reduceAdd,Nat.reduceSub,Nat.reduceMul,Nat.reduceLeDiff,Nat.reduceLT,Nat.reduceEqDiff,↓reduceIte,reduceCtorEq,Int.reduceBEq,Int.reduceBNe,Nat.reduceBEq,Int.reduceLE,Int.reduceLT,Int.reduceEq,Int.reduceNe,Int.reduceNeg,Nat.reduceDiv,Nat.reduceMod,Nat.reducePow,Zm,Ar.v,x1,x2,x3,x4,x5,x6,hN0,hN];exact bZ.get):A:=e ⟨⟩ p1 p2 p3 p4 p5 p6 ⟨b⟩
theorem Yg3 {A:Prop} {P0:Prop} (p0:P0) {P1:Prop} (p1:P1) {P2:Prop} (p2:P2) {P3:Prop} (p3:P3) {P4:Prop} (p4:P4) {P5:Prop} (p5:P5) (e:P0→P1→P2→P3→P4→P5→A:=by intro x0 x1 x2 x3 x4 x5;simp only [push_cast,Nat.reduceAdd,Nat.reduceSub,Nat.reduceMul,Nat.reduceLeDiff,Nat.reduceLT,Nat.reduceEqDiff,↓reduceIte,reduceCtorEq,Int.reduceBEq,Int.reduceBNe,Nat.reduceBEq,Int.reduceLE,Int.reduceLT,Int.reduceEq,Int.reduceNe,Int.reduceNeg,Nat.reduceDiv,Nat.reduceMod,Nat.reducePow,Zm,x0,x1,x2,x3,x4,x5,hN0,hN]):A:=e p0 p1 p2 p3 p4 p5
theorem zEf {A:Prop} (e:A:=by refine And.intro rfl (Fit2.of (Ya hU rfl rfl ?_) (by omega));simp only [push_cast,seval,↓reduceIte,Zm,hN0,hN]):A:=e
theorem Yke {A B:Prop} (l0:List (Option Bool)) {P1:Prop} (p1:P1) {P2:Prop} (p2:P2) {P3:Prop} (p3:P3) {P4:Prop} (p4:P4) {P5:Prop} (p5:P5) {P6:Prop} (p6:P6) {P7:Prop} (p7:P7) (b:B) (e:Ar l0→P1→P2→P3→P4→P5→P6→P7→Hid B→A:=by intro x0 x1 x2 x3 x4 x5 x6 x7 bZ;refine Yw Zz x0.v ?_;simp only [push_cast,seval,↓reduceIte,Zm,Ar.v,x1,x2,x3,x4,x5,x6,x7,hN0,hN];exact bZ.get):A:=e ⟨⟩ p1 p2 p3 p4 p5 p6 p7 ⟨b⟩
theorem Yhh {A:Prop} {P0:Prop} (p0:P0) {P1:Prop} (p1:P1) {P2:Prop} (p2:P2) {P3:Prop} (p3:P3) {P4:Prop} (p4:P4) {P5:Prop} (p5:P5) {P6:Prop} (p6:P6) (e:P0→P1→P2→P3→P4→P5→P6→A:=by intro x0 x1 x2 x3 x4 x5 x6;have h9:=Option.some.inj x0;subst h9;refine And.intro rfl (Fit2.of (Ya hU rfl rfl ?_) (by omega));simp only [push_cast,Nat.reduceAdd,Nat.reduceSub,Nat.reduceMul,Nat.reduceLeDiff,Nat.reduceLT,Nat.reduceEqDiff,↓reduceIte,reduceCtorEq,Int.reduceBEq,Int.reduceBNe,Nat.reduceBEq,Int.reduceLE,Int.reduceLT,Int.reduceEq,Int.reduceNe,Int.reduceNeg,Nat.reduceDiv,Nat.reduceMod,Nat.reducePow,Zm,x1,x2,x3,x4,x5,x6,hN0,hN]):A:=e p0 p1 p2 p3 p4 p5 p6
theorem Ylp {A:Prop} {P0:Prop} (p0:P0) {P1:Prop} (p1:P1) {P2:Prop} (p2:P2) {P3:Prop} (p3:P3) {P4:Prop} (p4:P4) {P5:Prop} (p5:P5) {P6:Prop} (p6:P6) {P7:Prop} (p7:P7) (e:P0→P1→P2→P3→P4→P5→P6→P7→A:=by intro x0 x1 x2 x3 x4 x5 x6 x7;simp only [push_cast,Nat.reduceAdd,Nat.reduceSub,Nat.reduceMul,Nat.reduceLeDiff,Nat.reduceLT,Nat.reduceEqDiff,↓reduceIte,reduceCtorEq,Int.reduceBEq,Int.reduceBNe,Nat.reduceBEq,Int.reduceLE,Int.reduceLT,Int.reduceEq,Int.reduceNe,Int.reduceNeg,Nat.reduceDiv,Nat.reduceMod,Nat.reducePow,Zm,x0,x1,x2,x3,x4,x5,x6,x7,hN0,hN]):A:=e p0 p1 p2 p3 p4 p5 p6 p7
theorem Yka {A:Prop} {P0:Prop} (p0:P0) {P1:Prop} (p1:P1) {P2:Prop} (p2:P2) {P3:Prop} (p3:P3) {P4:Prop} (p4:P4) {P5:Prop} (p5:P5) (e:P0→P1→P2→P3→P4→P5→A:=by intro x0 x1 x2 x3 x4 x5;refine And.intro rfl (Fit2.of (Ya hU rfl rfl ?_) (by omega));simp only [push_cast,Nat.reduceAdd,Nat.reduceSub,Nat.reduceMul,Nat.reduceLeDiff,Nat.reduceLT,Nat.reduceEqDiff,↓reduceIte,reduceCtorEq,Int.reduceBEq,Int.reduceBNe,Nat.reduceBEq,Int.reduceLE,Int.reduceLT,Int.reduceEq,Int.reduceNe,Int.reduceNeg,Nat.reduceDiv,Nat.reduceMod,Nat.reducePow,Zm,x0,x1,x2,x3,x4,x5,hN0,hN]):A:=e p0 p1 p2 p3 p4 p5
end Go.Proofs.Ytfjkcekfifobpaa
