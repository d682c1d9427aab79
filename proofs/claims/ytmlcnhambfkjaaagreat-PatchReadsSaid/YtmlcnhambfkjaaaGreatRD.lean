/- Part RD of this seat's mirrors: functions of the seat's program, and the plain functions that they are; each theorem bears its own conditions. -/
import Derived.Test.YtmlcnhambfkjaaaGreatH26
namespace Go.Proofs.YtmlcnhambfkjaaaGreat
open Go.RowKit
set_option linter.unusedVariables false
set_option linter.unusedSimpArgs false
set_option maxRecDepth 100000
set_option maxHeartbeats 4000000
structure Za where
 Kind:Int
 Words:(List Int)
 Kids:(List Za)
noncomputable def Qz (Jb:(Za→Int→Int→Option Int)) (a0:Za) (a1:Int) (s0_:(Int×Int)):Option ((Int×Int) ⊕ Int) :=
 cond (cond (decide (s0_.2 < (a0.Kids.length:Int))) (decide (0≤s0_.1)) false) ((Xs a0.Kids s0_.2).bind fun x1=>(Jb x1 (IntKind.i64.wrap (a1 - 1)) s0_.1).bind fun y2=>some (.inl (y2,(IntKind.i64.wrap (s0_.2+1))))) (some (.inr s0_.1))
noncomputable def Q6 (Jb:(Za→Int→Int→Option Int)) (a0:Za) (a1:Int) (a2:Int):Option Int :=
 cond (cond (a1 == 0) true (decide ((IntKind.i64.wrap ((IntKind.i64.wrap (a2 - 1)) - (a0.Words.length:Int))) < 0))) (some (-1)) ((Z3 (Qz Jb a0 a1) ((IntKind.i64.wrap ((IntKind.i64.wrap (a2 - 1)) - (a0.Words.length:Int))),0)).bind fun (z4:Int)=>some z4)
noncomputable def Xb:Nat→(Za→Int→Int→Option Int)
 | 0=>(fun _ _ _=>none)
 | k+1=>Q6 ((Xb k))
noncomputable def Zet (a0:Za) (a1:Int) (a2:Int):Option Int:=lim fun k=>(Xb k) a0 a1 a2
noncomputable def Zck (a0:Za):Option Bool :=
 (Zet a0 80 3000).bind fun y2=>some (decide (0≤y2))
noncomputable def Zgt (a0:Int):Option Int :=
 cond (a0 == 0) (some 0) (cond (a0 == 1) (some 1) (cond (a0 == 2) (some 8) (cond (a0 == 3) (some 16) (cond (a0 == 4) (some 32) (cond (a0 == 5) (some 64) (some (-1)))))))
noncomputable def Q8 (y2:Int) (s0_:(Int×Int)):Option ((Int×Int) ⊕ Int) :=
 cond (decide (s0_.2 < y2)) (some (.inl ((IntKind.u64.wrap (Int.tdiv s0_.1 2)),(IntKind.i64.wrap (s0_.2+1))))) (some (.inr s0_.1))
noncomputable def U2 (a0:Int) (a1:Int):Option Bool :=
 (Zgt a0).bind fun y2=>cond (decide (y2 < 0)) (some false) ((Z3 (Q8 y2) (a1,0)).bind fun (z4:Int)=>some (z4 == 0))
noncomputable def Vy (Js:(Za→Int→Option Bool)) (a0:Za) (a1:Int) (s0_:Int):Option (Int ⊕ (Unit ⊕ Unit)) :=
 cond (decide (s0_ < (a0.Kids.length:Int))) ((Xs a0.Kids s0_).bind fun x2=>(Js x2 (IntKind.i64.wrap (a1 - 1))).bind fun y4=>cond (!y4) (some (.inr (.inl ()))) ((cond ((cond (decide (2≤a0.Kind)) (decide (a0.Kind≤7)) false) != (x2.Kind == 10)) (some true) (cond (a0.Kind == 9) (cond (x2.Kind != 1) (some true) (cond (decide (2≤a0.Kind)) (cond (decide (a0.Kind≤7)) ((Xs x2.Words 0).bind fun x14=>(U2 (IntKind.i64.wrap (a0.Kind - 2)) x14).bind fun y15=>some (cond (cond ((cond (decide (2≤a0.Kind)) (decide (a0.Kind≤7)) false) != (x2.Kind == 10)) true (cond (a0.Kind == 9) (x2.Kind != 1) false)) true (cond (cond (decide (2≤a0.Kind)) (decide (a0.Kind≤7)) false) (!y15) false))) (some (cond (cond ((cond (decide (2≤a0.Kind)) (decide (a0.Kind≤7)) false) != (x2.Kind == 10)) true (cond (a0.Kind == 9) (x2.Kind != 1) false)) true false))) (some (cond (cond ((cond (decide (2≤a0.Kind)) (decide (a0.Kind≤7)) false) != (x2.Kind == 10)) true (cond (a0.Kind == 9) (x2.Kind != 1) false)) true false)))) (cond (decide (2≤a0.Kind)) (cond (decide (a0.Kind≤7)) ((Xs x2.Words 0).bind fun x16=>(U2 (IntKind.i64.wrap (a0.Kind - 2)) x16).bind fun y17=>some (cond (cond ((cond (decide (2≤a0.Kind)) (decide (a0.Kind≤7)) false) != (x2.Kind == 10)) true (cond (a0.Kind == 9) (x2.Kind != 1) false)) true (cond (cond (decide (2≤a0.Kind)) (decide (a0.Kind≤7)) false) (!y17) false))) (some (cond (cond ((cond (decide (2≤a0.Kind)) (decide (a0.Kind≤7)) false) != (x2.Kind == 10)) true (cond (a0.Kind == 9) (x2.Kind != 1) false)) true false))) (some (cond (cond ((cond (decide (2≤a0.Kind)) (decide (a0.Kind≤7)) false) != (x2.Kind == 10)) true (cond (a0.Kind == 9) (x2.Kind != 1) false)) true false))))).bind fun (z9:Bool)=>cond z9 (some (.inr (.inl ()))) (some (.inl (IntKind.i64.wrap (s0_+1)))))) (some (.inr (.inr ())))
noncomputable def G9 (Js:(Za→Int→Option Bool)) (a0:Za) (a1:Int):Option Bool :=
 cond (a0.Kind == 0) (some (cond ((a0.Words.length:Int) == 0) ((a0.Kids.length:Int) == 0) false)) (cond (a0.Kind == 10) (some (cond ((a0.Words.length:Int) == 1) ((a0.Kids.length:Int) == 0) false)) (cond (cond (cond (cond (cond (cond (decide (a0.Kind < 0)) true (decide (10 < a0.Kind))) true (a1 == 0)) true (decide (65536≤(a0.Words.length:Int)))) true (cond (a0.Kind == 1) (decide (65536≤(a0.Kids.length:Int))) false)) true (decide (1048576≤(a0.Kids.length:Int)))) (some false) (cond (cond (decide (1 < a0.Kind)) (decide (0 < (a0.Words.length:Int))) false) (some false) ((Z3 (Vy Js a0 a1) 0).bind fun (z28:(Unit ⊕ Unit))=>match z28 with | .inl z28=>some false | .inr z28=>some true))))
noncomputable def Jx:Nat→(Za→Int→Option Bool)
 | 0=>(fun _ _=>none)
 | k+1=>G9 ((Jx k))
noncomputable def Kz (a0:Za) (a1:Int):Option Bool:=lim fun k=>(Jx k) a0 a1
noncomputable def G5 (a0:Za):Option Bool :=
 some (cond (a0.Kind != 0) true (decide (0 < (IntKind.i64.wrap ((a0.Words.length:Int)+(a0.Kids.length:Int))))))
structure Zx where
 At:Int
 Mask:Int
 Old:Int
 New:Int
mutual
structure Zf where
 Kind:Int
 Old:Za
 New:Za
 Words:(List Zx)
 Kids:(List Zl)
 List_:Int
 Ops:(List Zt)
structure Zl where
 At:Int
 E:Zf
structure Zt where
 Kind:Int
 N:Int
 L:(List Za)
 E:Zf
end
noncomputable def Ux (a0:Bool) (a1:Bool) (a2:Bool) (a3:Zf):Option Bool :=
 (cond a0 ((G5 a3.Old).bind fun y6=>cond y6 (some false) ((G5 a3.New).bind fun y7=>some (cond (cond (!(cond a0 (cond y6 true y7) false)) (!(cond a1 (decide (0 < (IntKind.i64.wrap ((a3.Words.length:Int)+(a3.Kids.length:Int))))) false)) false) (!(cond a2 (cond (a3.List_ != 0) true (decide (0 < (a3.Ops.length:Int)))) false)) false))) (some (cond (!(cond a1 (decide (0 < (IntKind.i64.wrap ((a3.Words.length:Int)+(a3.Kids.length:Int))))) false)) (!(cond a2 (cond (a3.List_ != 0) true (decide (0 < (a3.Ops.length:Int)))) false)) false))).bind fun (z3:Bool)=>some z3
noncomputable def Zex (a0:Int):Option Bool :=
 some (cond (decide (2≤a0)) (decide (a0≤9)) false)
noncomputable def U0 (a0:(List Za)) (s0_:Int):Option (Int ⊕ (Unit ⊕ Unit)) :=
 cond (decide (s0_ < (a0.length:Int))) ((Xs a0 s0_).bind fun x2=>cond (x2.Kind != 1) (some (.inr (.inl ()))) (some (.inl (IntKind.i64.wrap (s0_+1))))) (some (.inr (.inr ())))
noncomputable def Zbk (a0:(List Za)):Option Bool :=
 (Z3 (U0 a0) 0).bind fun (z5:(Unit ⊕ Unit))=>match z5 with | .inl z5=>some false | .inr z5=>some true
noncomputable def Gx (a0:Int):Option (Int×Bool) :=
 ((some (⟨[0,1,8,16,32,64],rfl⟩:(Arr Int 6)))).bind fun y6=>((some (⟨[0,0,0,0,0,0],rfl⟩:(Arr Int 6)))).bind fun y8=>cond (cond (decide (a0 < 0)) true (decide (6≤a0))) (some (0,false)) ((Xs y6.1 a0).bind fun x12=>some (x12,true))
noncomputable def Zg3 (a0:Int) (a1:Int):Option Bool :=
 (Gx a0).bind fun y2=>(cond y2.2 ((Vr (0≤y2.1)).bind fun u6=>some (cond y2.2 ((Int.fdiv a1 (2 ^ min (Int.toNat y2.1) 64)) == 0) false)) (some false)).bind fun (z4:Bool)=>some z4
noncomputable def Zhi (Xv:(Za→Option Bool)) (Xq:(Za→Int→Option Bool)) (Y9:((List Za)→Int→Option Bool)) (Xd:((List Za)→Int→Option Bool)) (a0:Za):Option Bool :=
 cond (a0.Kind == 10) (some (cond ((a0.Words.length:Int) == 1) ((a0.Kids.length:Int) == 0) false)) ((Xq a0 64).bind fun y2=>some y2)
noncomputable def Zhj (Xv:(Za→Option Bool)) (Xq:(Za→Int→Option Bool)) (Y9:((List Za)→Int→Option Bool)) (Xd:((List Za)→Int→Option Bool)) (a0:Za) (a1:Int):Option Bool :=
 cond (a0.Kind == 0) (some (cond ((a0.Words.length:Int) == 0) ((a0.Kids.length:Int) == 0) false)) (cond (a1 == 0) (some false) (cond (a0.Kind == 1) ((cond (decide ((a0.Words.length:Int) < 65536)) (cond (decide ((a0.Kids.length:Int) < 65536)) ((Y9 a0.Kids (IntKind.i64.wrap (a1 - 1))).bind fun y4=>some (cond (cond (decide ((a0.Words.length:Int) < 65536)) (decide ((a0.Kids.length:Int) < 65536)) false) y4 false)) (some false)) (some false)).bind fun (z2:Bool)=>some z2) ((Zex a0.Kind).bind fun y8=>cond (cond (cond (!y8) true (decide (0 < (a0.Words.length:Int)))) true (decide (1048576≤(a0.Kids.length:Int)))) (some false) (cond (a0.Kind == 8) ((Y9 a0.Kids (IntKind.i64.wrap (a1 - 1))).bind fun y10=>some y10) (cond (a0.Kind == 9) (((Zbk a0.Kids).bind fun y16=>cond y16 ((Y9 a0.Kids (IntKind.i64.wrap (a1 - 1))).bind fun y17=>some (cond y16 y17 false)) (some false)).bind fun (z13:Bool)=>some z13) ((Xd a0.Kids (IntKind.i64.wrap (a0.Kind - 2))).bind fun y20=>some y20))))))
noncomputable def Zah (Xq:(Za→Int→Option Bool)) (a0:(List Za)) (a1:Int) (s0_:Int):Option (Int ⊕ (Unit ⊕ Unit)) :=
 cond (decide (s0_ < (a0.length:Int))) ((Xs a0 s0_).bind fun x2=>(Xq x2 a1).bind fun y4=>cond (!y4) (some (.inr (.inl ()))) (some (.inl (IntKind.i64.wrap (s0_+1))))) (some (.inr (.inr ())))
noncomputable def Zdk (Xv:(Za→Option Bool)) (Xq:(Za→Int→Option Bool)) (Y9:((List Za)→Int→Option Bool)) (Xd:((List Za)→Int→Option Bool)) (a0:(List Za)) (a1:Int):Option Bool :=
 (Z3 (Zah Xq a0 a1) 0).bind fun (z7:(Unit ⊕ Unit))=>match z7 with | .inl z7=>some false | .inr z7=>some true
noncomputable def Zag (Xv:(Za→Option Bool)) (a0:(List Za)) (a1:Int) (s0_:Int):Option (Int ⊕ (Unit ⊕ Unit)) :=
 cond (decide (s0_ < (a0.length:Int))) ((Xs a0 s0_).bind fun x2=>(cond (x2.Kind != 10) (some true) ((Xv x2).bind fun y10=>cond y10 ((Xs x2.Words 0).bind fun x11=>(Zg3 a1 x11).bind fun y12=>some (cond (cond (x2.Kind != 10) true (!y10)) true (!y12))) (some true))).bind fun (z6:Bool)=>cond z6 (some (.inr (.inl ()))) (some (.inl (IntKind.i64.wrap (s0_+1))))) (some (.inr (.inr ())))
noncomputable def Zdj (Xv:(Za→Option Bool)) (Xq:(Za→Int→Option Bool)) (Y9:((List Za)→Int→Option Bool)) (Xd:((List Za)→Int→Option Bool)) (a0:(List Za)) (a1:Int):Option Bool :=
 (Z3 (Zag Xv a0 a1) 0).bind fun (z17:(Unit ⊕ Unit))=>match z17 with | .inl z17=>some false | .inr z17=>some true
noncomputable def Z7:Nat→((Za→Option Bool)×(Za→Int→Option Bool)×((List Za)→Int→Option Bool)×((List Za)→Int→Option Bool))
 | 0=>((fun _=>none),(fun _ _=>none),(fun _ _=>none),(fun _ _=>none))
 | k+1=>(Zhi ((Z7 k).1) ((Z7 k).2.1) ((Z7 k).2.2.1) ((Z7 k).2.2.2),Zhj ((Z7 k).1) ((Z7 k).2.1) ((Z7 k).2.2.1) ((Z7 k).2.2.2),Zdk ((Z7 k).1) ((Z7 k).2.1) ((Z7 k).2.2.1) ((Z7 k).2.2.2),Zdj ((Z7 k).1) ((Z7 k).2.1) ((Z7 k).2.2.1) ((Z7 k).2.2.2))
noncomputable def Zh0 (a0:Za):Option Bool:=lim fun k=>(Z7 k).1 a0
noncomputable def Zfm (a0:Za):Option Bool :=
 (cond (a0.Kind != 10) ((Zh0 a0).bind fun y4=>some (cond (a0.Kind != 10) y4 false)) (some false)).bind fun (z2:Bool)=>some z2
noncomputable def Ze0 (a0:Int) (s0_:(Int×Int)):Option ((Int×Int) ⊕ Int) :=
 cond (decide (s0_.2 < 8)) (((Vr (0≤s0_.2)).bind fun u3=>cond ((IntKind.u8.wrap (Qq .u8 (Int.fdiv a0 (2 ^ min (Int.toNat s0_.2) 8)) 1)) == 1) ((Vr (0≤(IntKind.i64.wrap (8 * s0_.2)))).bind fun u4=>some (IntKind.u64.wrap (Zci .u64 s0_.1 (IntKind.u64.wrap (255 * 2 ^ min (Int.toNat (IntKind.i64.wrap (8 * s0_.2))) 64))))) (some s0_.1)).bind fun (z1:Int)=>some (.inl (z1,(IntKind.i64.wrap (s0_.2+1))))) (some (.inr s0_.1))
noncomputable def Zg5 (a0:Int):Option Int :=
 (Z3 (Ze0 a0) (0,0)).bind fun (z7:Int)=>some z7
noncomputable def Uw (a0:(List Zx)) (s0_:(Int×Int)):Option ((Int×Int) ⊕ (Unit ⊕ Unit)) :=
 cond (decide (s0_.2 < (a0.length:Int))) ((Xs a0 s0_.2).bind fun x2=>(Zg5 x2.Mask).bind fun y4=>cond (cond (cond (cond (cond (decide (x2.At≤s0_.1)) true (decide (65534 < x2.At))) true (x2.Mask == 0)) true ((IntKind.u64.wrap (Qq .u64 x2.Old (IntKind.u64.wrap (Zn2 .u64 (if IntKind.signed .u64=true then -1 else IntKind.max .u64) y4)))) != 0)) true ((IntKind.u64.wrap (Qq .u64 x2.New (IntKind.u64.wrap (Zn2 .u64 (if IntKind.signed .u64=true then -1 else IntKind.max .u64) y4)))) != 0)) (some (.inr (.inl ()))) (some (.inl (x2.At,(IntKind.i64.wrap (s0_.2+1)))))) (some (.inr (.inr ())))
noncomputable def Zbg (a0:(List Zx)):Option Bool :=
 (Z3 (Uw a0) ((-1),0)).bind fun (z7:(Unit ⊕ Unit))=>match z7 with | .inl z7=>some false | .inr z7=>some true
noncomputable def Zdn (a0:Int) (a1:Zf):Option Bool :=
 cond (a0 == 8) (some (a1.Kind != 0)) (cond (a0 == 9) (some (cond (a1.Kind == 2) true (cond (cond (a1.Kind == 1) (a1.Old.Kind == 1) false) (a1.New.Kind == 1) false))) (some false))
noncomputable def Zcl (a0:Zt):Option Int :=
 cond (a0.Kind == 0) (some (if 1048576 < (if a0.N < 0 then 0 else a0.N) then 1048576 else (if a0.N < 0 then 0 else a0.N))) ((cond (a0.Kind == 1) (some (a0.Kind == 1)) (some (a0.Kind == 2))).bind fun (z1:Bool)=>cond z1 (some (a0.L.length:Int)) (cond (a0.Kind == 3) (some 1) (some 0)))
noncomputable def Zbf (a0:Zf) (s0_:(Int×Int×Int)):Option ((Int×Int×Int) ⊕ (Int×Int)) :=
 cond (decide (s0_.2.2 < (a0.Ops.length:Int))) (((Xs a0.Ops s0_.2.2).bind fun x3=>(cond (x3.Kind != 2) ((Zcl x3).bind fun y5=>some (if 1048576 < (IntKind.i64.wrap (s0_.1+y5)) then 1048576 else (IntKind.i64.wrap (s0_.1+y5)))) (some s0_.1)).bind fun (z4:Int)=>cond (x3.Kind != 1) ((Zcl x3).bind fun y7=>some (z4,(if 1048576 < (IntKind.i64.wrap (s0_.2.1+y7)) then 1048576 else (IntKind.i64.wrap (s0_.2.1+y7))))) (some (z4,s0_.2.1))).bind fun (z1:(Int×Int))=>some (.inl (z1.1,z1.2,(IntKind.i64.wrap (s0_.2.2+1))))) (some (.inr (s0_.1,s0_.2.1)))
noncomputable def Zeu (a0:Zf):Option (Int×Int) :=
 (Z3 (Zbf a0) (0,0,0)).bind fun (z10:(Int×Int))=>some (z10.1,z10.2)
noncomputable def Zhe (Y5:(Zf→Option Bool)) (Yz:(Zf→Int→Option Bool)) (Yf:((List Zl)→Int→Option Bool)) (Yn:(Zf→Int→Option Bool)) (Yo:(Int→Zt→Int→Option Bool)) (Yb:(Bool→Bool→Bool→Zt→Option Bool)) (a0:Zf):Option Bool :=
 (Yz a0 64).bind fun y2=>some y2
noncomputable def Zhf (Y5:(Zf→Option Bool)) (Yz:(Zf→Int→Option Bool)) (Yf:((List Zl)→Int→Option Bool)) (Yn:(Zf→Int→Option Bool)) (Yo:(Int→Zt→Int→Option Bool)) (Yb:(Bool→Bool→Bool→Zt→Option Bool)) (a0:Zf) (a1:Int):Option Bool :=
 cond (a1 == 0) (some false) (cond (a0.Kind == 0) ((Ux true true true a0).bind fun y2=>some y2) (cond (a0.Kind == 1) (((Ux false true true a0).bind fun y10=>cond y10 ((Zfm a0.Old).bind fun y11=>cond y11 ((Zfm a0.New).bind fun y12=>some (cond (cond y10 y11 false) y12 false)) (some false)) (some false)).bind fun (z6:Bool)=>some z6) (cond (a0.Kind == 2) (((Ux true false true a0).bind fun y22=>cond y22 ((Zbg a0.Words).bind fun y23=>cond y23 ((Yf a0.Kids (IntKind.i64.wrap (a1 - 1))).bind fun y24=>some (cond (cond y22 y23 false) y24 false)) (some false)) (some false)).bind fun (z18:Bool)=>some z18) (cond (a0.Kind == 3) (((Ux true true false a0).bind fun y32=>cond y32 ((Yn a0 (IntKind.i64.wrap (a1 - 1))).bind fun y33=>some (cond y32 y33 false)) (some false)).bind fun (z29:Bool)=>some z29) (some false)))))
noncomputable def Gn (Yz:(Zf→Int→Option Bool)) (a0:(List Zl)) (a1:Int) (s0_:(Int×Int)):Option ((Int×Int) ⊕ (Unit ⊕ Unit)) :=
 cond (decide (s0_.2 < (a0.length:Int))) ((Xs a0 s0_.2).bind fun x2=>(cond (decide (x2.At≤s0_.1)) (some true) (cond (decide (65534 < x2.At)) (some true) (cond (x2.E.Kind == 0) (some true) ((Yz x2.E a1).bind fun y6=>some (cond (cond (cond (decide (x2.At≤s0_.1)) true (decide (65534 < x2.At))) true (x2.E.Kind == 0)) true (!y6)))))).bind fun (z4:Bool)=>cond z4 (some (.inr (.inl ()))) (some (.inl (x2.At,(IntKind.i64.wrap (s0_.2+1)))))) (some (.inr (.inr ())))
noncomputable def Zb8 (Y5:(Zf→Option Bool)) (Yz:(Zf→Int→Option Bool)) (Yf:((List Zl)→Int→Option Bool)) (Yn:(Zf→Int→Option Bool)) (Yo:(Int→Zt→Int→Option Bool)) (Yb:(Bool→Bool→Bool→Zt→Option Bool)) (a0:(List Zl)) (a1:Int):Option Bool :=
 (Z3 (Gn Yz a0 a1) ((-1),0)).bind fun (z12:(Unit ⊕ Unit))=>match z12 with | .inl z12=>some false | .inr z12=>some true
noncomputable def Zad (Yo:(Int→Zt→Int→Option Bool)) (a0:Zf) (a1:Int) (s0_:Int):Option (Int ⊕ (Unit ⊕ Unit)) :=
 cond (decide (s0_ < (a0.Ops.length:Int))) ((Xs a0.Ops s0_).bind fun x4=>(Yo a0.List_ x4 a1).bind fun y6=>cond (!y6) (some (.inr (.inl ()))) (some (.inl (IntKind.i64.wrap (s0_+1))))) (some (.inr (.inr ())))
noncomputable def Zdg (Y5:(Zf→Option Bool)) (Yz:(Zf→Int→Option Bool)) (Yf:((List Zl)→Int→Option Bool)) (Yn:(Zf→Int→Option Bool)) (Yo:(Int→Zt→Int→Option Bool)) (Yb:(Bool→Bool→Bool→Zt→Option Bool)) (a0:Zf) (a1:Int):Option Bool :=
 (Zex a0.List_).bind fun y2=>cond (!y2) (some false) ((Z3 (Zad Yo a0 a1) 0).bind fun (z9:(Unit ⊕ Unit))=>match z9 with | .inl z9=>some false | .inr z9=>(Zeu a0).bind fun y11=>some (cond (decide (y11.1 < 1048576)) (decide (y11.2 < 1048576)) false))
noncomputable def Zej (Y5:(Zf→Option Bool)) (Yz:(Zf→Int→Option Bool)) (Yf:((List Zl)→Int→Option Bool)) (Yn:(Zf→Int→Option Bool)) (Yo:(Int→Zt→Int→Option Bool)) (Yb:(Bool→Bool→Bool→Zt→Option Bool)) (a0:Int) (a1:Zt) (a2:Int):Option Bool :=
 (cond (a1.Kind == 0) ((Yb false true true a1).bind fun y3=>some (.inr (.inl (cond (cond y3 (decide (1≤a1.N)) false) (decide (a1.N≤1048576)) false)))) (cond (a1.Kind == 1) (some (.inl ())) (cond (a1.Kind == 2) (some (.inl ())) (cond (a1.Kind == 3) (some (.inr (.inr (.inl ())))) (some (.inr (.inr (.inr ())))))))).bind fun (z1:(Unit ⊕ (Bool ⊕ (Unit ⊕ Unit))))=>match z1 with | .inl z1=>((Yb true false true a1).bind fun y13=>cond y13 (cond (decide (0 < (a1.L.length:Int))) ((Zh0 (⟨a0,[],a1.L⟩:Za)).bind fun y14=>some (cond (cond y13 (decide (0 < (a1.L.length:Int))) false) y14 false)) (some false)) (some false)).bind fun (z10:Bool)=>some z10 | .inr z1=>match z1 with | .inl z1=>some z1 | .inr z1=>match z1 with | .inl z1=>((Yb true true false a1).bind fun y24=>cond y24 ((Zdn a0 a1.E).bind fun y25=>cond y25 ((Yz a1.E a2).bind fun y26=>some (cond (cond y24 y25 false) y26 false)) (some false)) (some false)).bind fun (z20:Bool)=>some z20 | .inr z1=>some false
noncomputable def Zb9 (Y5:(Zf→Option Bool)) (Yz:(Zf→Int→Option Bool)) (Yf:((List Zl)→Int→Option Bool)) (Yn:(Zf→Int→Option Bool)) (Yo:(Int→Zt→Int→Option Bool)) (Yb:(Bool→Bool→Bool→Zt→Option Bool)) (a0:Bool) (a1:Bool) (a2:Bool) (a3:Zt):Option Bool :=
 (cond a0 (cond (a3.N != 0) (some false) (cond a1 (cond (decide (0 < (a3.L.length:Int))) (some false) (cond a2 (cond (a3.E.Kind != 0) (some (cond (cond (!(cond a0 (a3.N != 0) false)) (!(cond a1 (decide (0 < (a3.L.length:Int))) false)) false) (!(cond a2 true false)) false)) ((Y5 a3.E).bind fun y10=>some (cond (cond (!(cond a0 (a3.N != 0) false)) (!(cond a1 (decide (0 < (a3.L.length:Int))) false)) false) (!(cond a2 (cond (a3.E.Kind != 0) true (!y10)) false)) false))) (some (cond (cond (!(cond a0 (a3.N != 0) false)) (!(cond a1 (decide (0 < (a3.L.length:Int))) false)) false) true false)))) (cond a2 (cond (a3.E.Kind != 0) (some (cond (cond (!(cond a0 (a3.N != 0) false)) (!(cond a1 (decide (0 < (a3.L.length:Int))) false)) false) (!(cond a2 true false)) false)) ((Y5 a3.E).bind fun y11=>some (cond (cond (!(cond a0 (a3.N != 0) false)) (!(cond a1 (decide (0 < (a3.L.length:Int))) false)) false) (!(cond a2 (cond (a3.E.Kind != 0) true (!y11)) false)) false))) (some (cond (cond (!(cond a0 (a3.N != 0) false)) (!(cond a1 (decide (0 < (a3.L.length:Int))) false)) false) true false))))) (cond a1 (cond (decide (0 < (a3.L.length:Int))) (some false) (cond a2 (cond (a3.E.Kind != 0) (some (cond (cond (!(cond a0 (a3.N != 0) false)) (!(cond a1 (decide (0 < (a3.L.length:Int))) false)) false) (!(cond a2 true false)) false)) ((Y5 a3.E).bind fun y12=>some (cond (cond (!(cond a0 (a3.N != 0) false)) (!(cond a1 (decide (0 < (a3.L.length:Int))) false)) false) (!(cond a2 (cond (a3.E.Kind != 0) true (!y12)) false)) false))) (some (cond (cond (!(cond a0 (a3.N != 0) false)) (!(cond a1 (decide (0 < (a3.L.length:Int))) false)) false) true false)))) (cond a2 (cond (a3.E.Kind != 0) (some (cond (cond (!(cond a0 (a3.N != 0) false)) (!(cond a1 (decide (0 < (a3.L.length:Int))) false)) false) (!(cond a2 true false)) false)) ((Y5 a3.E).bind fun y13=>some (cond (cond (!(cond a0 (a3.N != 0) false)) (!(cond a1 (decide (0 < (a3.L.length:Int))) false)) false) (!(cond a2 (cond (a3.E.Kind != 0) true (!y13)) false)) false))) (some (cond (cond (!(cond a0 (a3.N != 0) false)) (!(cond a1 (decide (0 < (a3.L.length:Int))) false)) false) true false))))).bind fun (z5:Bool)=>some z5
noncomputable def Zs:Nat→((Zf→Option Bool)×(Zf→Int→Option Bool)×((List Zl)→Int→Option Bool)×(Zf→Int→Option Bool)×(Int→Zt→Int→Option Bool)×(Bool→Bool→Bool→Zt→Option Bool))
 | 0=>((fun _=>none),(fun _ _=>none),(fun _ _=>none),(fun _ _=>none),(fun _ _ _=>none),(fun _ _ _ _=>none))
 | k+1=>(Zhe ((Zs k).1) ((Zs k).2.1) ((Zs k).2.2.1) ((Zs k).2.2.2.1) ((Zs k).2.2.2.2.1) ((Zs k).2.2.2.2.2),Zhf ((Zs k).1) ((Zs k).2.1) ((Zs k).2.2.1) ((Zs k).2.2.2.1) ((Zs k).2.2.2.2.1) ((Zs k).2.2.2.2.2),Zb8 ((Zs k).1) ((Zs k).2.1) ((Zs k).2.2.1) ((Zs k).2.2.2.1) ((Zs k).2.2.2.2.1) ((Zs k).2.2.2.2.2),Zdg ((Zs k).1) ((Zs k).2.1) ((Zs k).2.2.1) ((Zs k).2.2.2.1) ((Zs k).2.2.2.2.1) ((Zs k).2.2.2.2.2),Zej ((Zs k).1) ((Zs k).2.1) ((Zs k).2.2.1) ((Zs k).2.2.2.1) ((Zs k).2.2.2.2.1) ((Zs k).2.2.2.2.2),Zb9 ((Zs k).1) ((Zs k).2.1) ((Zs k).2.2.1) ((Zs k).2.2.2.1) ((Zs k).2.2.2.2.1) ((Zs k).2.2.2.2.2))
noncomputable def Zj5 (a0:Zf):Option Bool:=lim fun k=>(Zs k).1 a0
noncomputable def Vf (a0:(List Int)) (a1:(List Za)):Option Za :=
 some (⟨1,a0,a1⟩:Za)
noncomputable def Zew (a0:(List Za)):Option Za :=
 cond ((a0.length:Int) == 0) (some (⟨0,[],[]⟩:Za)) (some (⟨9,[],a0⟩:Za))
noncomputable def Uz (a0:(List Zx)) (s0_:(Int×(List Za))):Option ((Int×(List Za)) ⊕ (List Za)) :=
 cond (decide (s0_.1 < (a0.length:Int))) ((Xs a0 s0_.1).bind fun x2=>(Vf ([(IntKind.u64.wrap (Zci .u64 (IntKind.u64.wrap x2.At) (IntKind.u64.wrap ((IntKind.u64.wrap x2.Mask) * 2 ^ min (Int.toNat 32) 64)))),x2.Old,x2.New]:List Int) ([]:(List Za))).bind fun y3=>(Zf9 56 s0_.2 ([y3]:List Za)).bind fun l4=>some (.inl ((IntKind.i64.wrap (s0_.1+1)),l4))) (some (.inr s0_.2))
noncomputable def Zbi (a0:(List Zx)):Option Za :=
 (Z3 (Uz a0) (0,([]:List Za))).bind fun (z6:(List Za))=>(Zew z6).bind fun y8=>some y8
noncomputable def Zhg (X6:(Zf→Option Za)) (Xt:((List Zl)→Option Za)) (Qb:(Int→(List Zt)→Option Za)) (a0:Zf):Option Za :=
 cond (a0.Kind == 1) ((Vf ([(IntKind.u64.wrap a0.Kind)]:List Int) ([a0.Old,a0.New]:List Za)).bind fun y2=>some y2) (cond (a0.Kind == 2) ((Zbi a0.Words).bind fun y51=>(Xt a0.Kids).bind fun y87=>(Vf ([(IntKind.u64.wrap a0.Kind)]:List Int) ([y51,y87]:List Za)).bind fun y111=>some y111) (cond (a0.Kind == 3) ((Qb a0.List_ a0.Ops).bind fun y267=>(Vf ([(IntKind.u64.wrap (Zci .u64 (IntKind.u64.wrap a0.Kind) (IntKind.u64.wrap ((IntKind.u64.wrap a0.List_) * 2 ^ min (Int.toNat 8) 64))))]:List Int) ([y267]:List Za)).bind fun y291=>some y291) (some (⟨0,[],[]⟩:Za))))
noncomputable def Gp (X6:(Zf→Option Za)) (a0:(List Zl)) (s0_:(Int×(List Za))):Option ((Int×(List Za)) ⊕ (List Za)) :=
 cond (decide (s0_.1 < (a0.length:Int))) ((Xs a0 s0_.1).bind fun x2=>(X6 x2.E).bind fun y87=>(Vf ([(IntKind.u64.wrap x2.At)]:List Int) ([y87]:List Za)).bind fun y111=>(Zf9 56 s0_.2 ([y111]:List Za)).bind fun l135=>some (.inl ((IntKind.i64.wrap (s0_.1+1)),l135))) (some (.inr s0_.2))
noncomputable def Zca (X6:(Zf→Option Za)) (Xt:((List Zl)→Option Za)) (Qb:(Int→(List Zt)→Option Za)) (a0:(List Zl)):Option Za :=
 (Z3 (Gp X6 a0) (0,([]:List Za))).bind fun (z160:(List Za))=>(Zew z160).bind fun y162=>some y162
noncomputable def Zae (X6:(Zf→Option Za)) (a0:Int) (a1:(List Zt)) (s0_:(Int×(List Za))):Option ((Int×(List Za)) ⊕ (List Za)) :=
 cond (decide (s0_.1 < (a1.length:Int))) (((Xs a1 s0_.1).bind fun x3=>cond (x3.Kind == 0) ((Vf ([(IntKind.u64.wrap (Zci .u64 (IntKind.u64.wrap x3.Kind) (IntKind.u64.wrap ((IntKind.u64.wrap x3.N) * 2 ^ min (Int.toNat 8) 64))))]:List Int) ([]:(List Za))).bind fun y4=>(Zf9 56 s0_.2 ([y4]:List Za)).bind fun l5=>some l5) ((cond (x3.Kind == 1) (some ((x3.Kind == 1),([(IntKind.u64.wrap (Zci .u64 (IntKind.u64.wrap x3.Kind) (IntKind.u64.wrap ((IntKind.u64.wrap x3.N) * 2 ^ min (Int.toNat 8) 64))))]:List Int))) (some ((x3.Kind == 2),([(IntKind.u64.wrap (Zci .u64 (IntKind.u64.wrap x3.Kind) (IntKind.u64.wrap ((IntKind.u64.wrap x3.N) * 2 ^ min (Int.toNat 8) 64))))]:List Int)))).bind fun (z6:(Bool×(List Int)))=>cond z6.1 ((Vf z6.2 ([(⟨a0,[],x3.L⟩:Za)]:List Za)).bind fun y8=>(Zf9 56 s0_.2 ([y8]:List Za)).bind fun l9=>some l9) (cond (x3.Kind == 3) ((X6 x3.E).bind fun y11=>(Vf z6.2 ([y11]:List Za)).bind fun y12=>(Zf9 56 s0_.2 ([y12]:List Za)).bind fun l13=>some l13) (some s0_.2)))).bind fun (z1:(List Za))=>some (.inl ((IntKind.i64.wrap (s0_.1+1)),z1))) (some (.inr s0_.2))
noncomputable def Zdh (X6:(Zf→Option Za)) (Xt:((List Zl)→Option Za)) (Qb:(Int→(List Zt)→Option Za)) (a0:Int) (a1:(List Zt)):Option Za :=
 (Z3 (Zae X6 a0 a1) (0,([]:List Za))).bind fun (z18:(List Za))=>(Zew z18).bind fun y20=>some y20
noncomputable def Y0:Nat→((Zf→Option Za)×((List Zl)→Option Za)×(Int→(List Zt)→Option Za))
 | 0=>((fun _=>none),(fun _=>none),(fun _ _=>none))
 | k+1=>(Zhg ((Y0 k).1) ((Y0 k).2.1) ((Y0 k).2.2),Zca ((Y0 k).1) ((Y0 k).2.1) ((Y0 k).2.2),Zdh ((Y0 k).1) ((Y0 k).2.1) ((Y0 k).2.2))
noncomputable def Zj6 (a0:Zf):Option Za:=lim fun k=>(Y0 k).1 a0
noncomputable def Gs (a0:(List Int)) (s0_:Int):Option (Int ⊕ Int) :=
 (cond (decide (0 < s0_)) ((Xs a0 (IntKind.i64.wrap (s0_ - 1))).bind fun x4=>some (cond (decide (0 < s0_)) (x4 == 0) false)) (some false)).bind fun (z2:Bool)=>cond z2 (some (.inl (IntKind.i64.wrap (s0_ - 1)))) (some (.inr s0_))
noncomputable def V7 (a0:(List Int)):Option (List Int) :=
 (Z3 (Gs a0) (a0.length:Int)).bind fun (z7:Int)=>(Zjw a0 0 z7).bind fun l9=>some l9
noncomputable def Zan (a0:(List Za)) (s0_:Int):Option (Int ⊕ Int) :=
 (cond (decide (0 < s0_)) ((Xs a0 (IntKind.i64.wrap (s0_ - 1))).bind fun x6=>some (cond (decide (0 < s0_)) (x6.Kind == 0) false)) (some false)).bind fun (z3:Bool)=>cond z3 (some (.inl (IntKind.i64.wrap (s0_ - 1)))) (some (.inr s0_))
noncomputable def Gi (a0:(List Za)):Option (List Za) :=
 (Z3 (Zan a0) (a0.length:Int)).bind fun (z10:Int)=>(Zjw a0 0 z10).bind fun l12=>some l12
noncomputable def Zcb (Zcz:(Za→Option Za)) (z1:((List Int)×(List Za))) (s0_:(Int×(List Za))):Option ((Int×(List Za)) ⊕ (List Za)) :=
 cond (decide (s0_.1 < (z1.2.length:Int))) ((Xs z1.2 s0_.1).bind fun x9=>(Zcz x9).bind fun y10=>(Xs s0_.2 s0_.1).bind fun x11=>some (.inl ((IntKind.i64.wrap (s0_.1+1)),(Zka s0_.2 s0_.1 y10)))) (some (.inr s0_.2))
noncomputable def Zi3 (Zcz:(Za→Option Za)) (a0:Za):Option Za :=
 cond (a0.Kind == 0) (some (⟨0,[],[]⟩:Za)) ((cond (a0.Kind == 1) ((V7 a0.Words).bind fun y2=>(Gi a0.Kids).bind fun y3=>some (y2,y3)) (some (a0.Words,a0.Kids))).bind fun (z1:((List Int)×(List Za)))=>(cond (decide (0 < (z1.2.length:Int))) ((Zj0 56 (z1.2.length:Int) (⟨(0:Int),[],[]⟩:Za)).bind fun l6=>some l6) (some ([]:List Za))).bind fun (z5:(List Za))=>(Z3 (Zcb Zcz z1) (0,z5)).bind fun (z14:(List Za))=>some (⟨a0.Kind,z1.1,z14⟩:Za))
noncomputable def Gw:Nat→(Za→Option Za)
 | 0=>(fun _=>none)
 | k+1=>Zi3 ((Gw k))
noncomputable def Zjd (a0:Za):Option Za:=lim fun k=>(Gw k) a0
noncomputable def Zlx (a0:Int):Option Bool :=
 some (cond (decide (2≤a0)) (decide (a0≤7)) false)
noncomputable def Zg4 (a0:Int) (a1:Int):Option Int :=
 (Gx a0).bind fun y2=>cond (cond (cond (!y2.2) true (decide (a1 < 0))) true (decide (1099511627776 < a1))) (some 0) (some (IntKind.i64.wrap (Int.tdiv (IntKind.i64.wrap ((IntKind.i64.wrap (a1 * y2.1))+63)) 64)))
noncomputable def Zdp (a0:Za) (s0_:(Int×Int×Int)):Option ((Int×Int×Int) ⊕ (Int×Int)) :=
 cond (decide (s0_.2.2 < (a0.Kids.length:Int))) ((Xs a0.Kids s0_.2.2).bind fun x2=>some (.inl ((if s0_.1 < (x2.Words.length:Int) then (x2.Words.length:Int) else s0_.1),(if s0_.2.1 < (x2.Kids.length:Int) then (x2.Kids.length:Int) else s0_.2.1),(IntKind.i64.wrap (s0_.2.2+1))))) (some (.inr (s0_.1,s0_.2.1)))
noncomputable def Zc5 (a0:Za):Option (Int×Int) :=
 (Z3 (Zdp a0) (0,0,0)).bind fun (z4:(Int×Int))=>some (z4.1,z4.2)
noncomputable def Zcc (Jo:((List Za)→Option Int)) (a0:Za) (s0_:(Int×Int)):Option ((Int×Int) ⊕ Int) :=
 cond (decide (s0_.2 < (a0.Kids.length:Int))) ((Xs a0.Kids s0_.2).bind fun x12=>(Jo x12.Kids).bind fun y13=>some (.inl ((IntKind.i64.wrap (s0_.1+y13)),(IntKind.i64.wrap (s0_.2+1))))) (some (.inr s0_.1))
noncomputable def Zi4 (Vp:(Za→Option Int)) (Jo:((List Za)→Option Int)) (a0:Za):Option Int :=
 cond (a0.Kind == 1) ((Jo a0.Kids).bind fun y2=>some (IntKind.i64.wrap ((IntKind.i64.wrap ((a0.Words.length:Int)+(a0.Kids.length:Int)))+y2))) ((Zlx a0.Kind).bind fun y4=>cond y4 ((Zg4 (IntKind.i64.wrap (a0.Kind - 2)) (a0.Kids.length:Int)).bind fun y6=>some y6) (cond (a0.Kind == 8) ((Jo a0.Kids).bind fun y8=>some (IntKind.i64.wrap ((a0.Kids.length:Int)+y8))) (cond (a0.Kind == 9) ((Zc5 a0).bind fun y10=>(Z3 (Zcc Jo a0) ((IntKind.i64.wrap (1+(IntKind.i64.wrap ((a0.Kids.length:Int) * (IntKind.i64.wrap (y10.1+y10.2)))))),0)).bind fun (z15:Int)=>some z15) (some 0))))
noncomputable def Zaz (Vp:(Za→Option Int)) (a0:(List Za)) (s0_:(Int×Int)):Option ((Int×Int) ⊕ Int) :=
 cond (decide (s0_.2 < (a0.length:Int))) ((Xs a0 s0_.2).bind fun x2=>(Vp x2).bind fun y3=>some (.inl ((IntKind.i64.wrap (s0_.1+y3)),(IntKind.i64.wrap (s0_.2+1))))) (some (.inr s0_.1))
noncomputable def Zhk (Vp:(Za→Option Int)) (Jo:((List Za)→Option Int)) (a0:(List Za)):Option Int :=
 (Z3 (Zaz Vp a0) (0,0)).bind fun (z5:Int)=>some z5
noncomputable def X4:Nat→((Za→Option Int)×((List Za)→Option Int))
 | 0=>((fun _=>none),(fun _=>none))
 | k+1=>(Zi4 ((X4 k).1) ((X4 k).2),Zhk ((X4 k).1) ((X4 k).2))
noncomputable def Zo6 (a0:Za):Option Int:=lim fun k=>(X4 k).1 a0
noncomputable def Zey (a0:Za):Option Int :=
 (Zjd a0).bind fun y3=>(Zo6 y3).bind fun y4=>some y4
structure Xk where
 Kind:Int
 Off:Int
 Data:Int
 Ptrs:Int
 Code:Int
 Count:Int
 Segment:Int
 Double:Bool
noncomputable def Zi2 (a0:Za):Option Xk :=
 cond (a0.Kind == 1) (some (⟨1,0,(a0.Words.length:Int),(a0.Kids.length:Int),0,0,0,false⟩:Xk)) (cond (a0.Kind == 9) ((Zc5 a0).bind fun y2=>some (⟨2,0,0,0,7,(IntKind.i64.wrap ((a0.Kids.length:Int) * (IntKind.i64.wrap (y2.1+y2.2)))),0,false⟩:Xk)) (some (⟨2,0,0,0,(IntKind.i64.wrap (a0.Kind - 2)),(a0.Kids.length:Int),0,false⟩:Xk)))
noncomputable def Zo5 (a0:Int):Option Int :=
 ((some (⟨[0,1,8,16,32,64,64],rfl⟩:(Arr Int 7)))).bind fun y6=>((some (⟨[0,0,0,0,0,0,0],rfl⟩:(Arr Int 7)))).bind fun y8=>(Xs y6.1 a0).bind fun x12=>some x12
noncomputable def Zdo (a0:Xk):Option (Int×Bool) :=
 cond (a0.Kind == 1) (some ((IntKind.i64.wrap (a0.Data+a0.Ptrs)),true)) (cond (cond (a0.Kind == 2) (a0.Code == 7) false) (some ((IntKind.i64.wrap (a0.Count+1)),true)) (cond (cond (cond (cond (cond (a0.Kind == 2) (decide (0≤a0.Code)) false) (decide (a0.Code < 7)) false) (decide (0≤a0.Count)) false) (decide (a0.Count≤536870911)) false) ((Zo5 a0.Code).bind fun y2=>some ((IntKind.i64.wrap (Int.tdiv (IntKind.i64.wrap ((IntKind.i64.wrap (a0.Count * y2))+63)) 64)),true)) (some (0,false))))
noncomputable def Zu5 (a0:Xk):Option Int :=
 cond (a0.Kind == 1) (some (IntKind.u64.wrap (Zci .u64 (IntKind.u64.wrap (Zci .u64 (IntKind.u64.wrap (IntKind.u32.wrap ((IntKind.u32.wrap a0.Off) * 2 ^ min (Int.toNat 2) 32))) (IntKind.u64.wrap ((IntKind.u64.wrap a0.Data) * 2 ^ min (Int.toNat 32) 64)))) (IntKind.u64.wrap ((IntKind.u64.wrap a0.Ptrs) * 2 ^ min (Int.toNat 48) 64))))) (cond (a0.Kind == 2) (some (IntKind.u64.wrap (Zci .u64 (IntKind.u64.wrap (Zci .u64 (IntKind.u64.wrap (Zci .u64 1 (IntKind.u64.wrap (IntKind.u32.wrap ((IntKind.u32.wrap a0.Off) * 2 ^ min (Int.toNat 2) 32))))) (IntKind.u64.wrap ((IntKind.u64.wrap a0.Code) * 2 ^ min (Int.toNat 32) 64)))) (IntKind.u64.wrap ((IntKind.u64.wrap a0.Count) * 2 ^ min (Int.toNat 35) 64))))) (cond (a0.Kind == 3) ((cond a0.Double (some (IntKind.u64.wrap (Zci .u64 (IntKind.u64.wrap (Zci .u64 (IntKind.u64.wrap (Zci .u64 2 (IntKind.u64.wrap ((IntKind.u64.wrap a0.Off) * 2 ^ min (Int.toNat 3) 64)))) (IntKind.u64.wrap ((IntKind.u64.wrap a0.Segment) * 2 ^ min (Int.toNat 32) 64)))) 4))) (some (IntKind.u64.wrap (Zci .u64 (IntKind.u64.wrap (Zci .u64 2 (IntKind.u64.wrap ((IntKind.u64.wrap a0.Off) * 2 ^ min (Int.toNat 3) 64)))) (IntKind.u64.wrap ((IntKind.u64.wrap a0.Segment) * 2 ^ min (Int.toNat 32) 64)))))).bind fun (z1:Int)=>some z1) (some 0)))
noncomputable def Zj8 (a0:Int):Option Int :=
 some (IntKind.i64.wrap (Int.fdiv (IntKind.i32.wrap (IntKind.u32.wrap a0)) (2 ^ min (Int.toNat 2) 32)))
noncomputable def Zcx (a0:Int) (a1:Int) (a2:Int):Option Int :=
 (Vr (0≤a1)).bind fun u3=>(Vr (0≤a2)).bind fun u4=>some (IntKind.i64.wrap (IntKind.u64.wrap (Qq .u64 (Int.fdiv a0 (2 ^ min (Int.toNat a1) 64)) (IntKind.u64.wrap ((IntKind.u64.wrap (1 * 2 ^ min (Int.toNat a2) 64)) - 1)))))
noncomputable def Zbj (a0:Int):Option Xk :=
 cond (a0 == 0) (some (⟨0,0,0,0,0,0,0,false⟩:Xk)) (cond ((IntKind.u64.wrap (Qq .u64 a0 3)) == 0) ((Zj8 a0).bind fun y4=>(Zcx a0 32 16).bind fun y5=>(Zcx a0 48 16).bind fun y6=>some (⟨1,y4,y5,y6,0,0,0,false⟩:Xk)) (cond ((IntKind.u64.wrap (Qq .u64 a0 3)) == 1) ((Zj8 a0).bind fun y10=>(Zcx a0 32 3).bind fun y11=>(Zcx a0 35 29).bind fun y12=>some (⟨2,y10,0,0,y11,y12,0,false⟩:Xk)) (cond ((IntKind.u64.wrap (Qq .u64 a0 3)) == 2) ((Zcx a0 3 29).bind fun y15=>(Zcx a0 32 32).bind fun y16=>some (⟨3,y15,0,0,0,0,y16,((IntKind.u64.wrap (Qq .u64 (Int.fdiv a0 (2 ^ min (Int.toNat 2) 64)) 1)) == 1)⟩:Xk)) (some (⟨4,0,0,0,0,0,0,false⟩:Xk)))))
noncomputable def Zhy (a0:Xk):Option (Int×Bool) :=
 (Zu5 a0).bind fun y2=>(cond (a0.Kind != 4) ((Zbj y2).bind fun y6=>some (cond (a0.Kind != 4) ((y6.Kind == a0.Kind) && ((y6.Off == a0.Off) && ((y6.Data == a0.Data) && ((y6.Ptrs == a0.Ptrs) && ((y6.Code == a0.Code) && ((y6.Count == a0.Count) && ((y6.Segment == a0.Segment) && (y6.Double == a0.Double)))))))) false)) (some false)).bind fun (z4:Bool)=>some (y2,z4)
noncomputable def Xx (a0:Za) (a1:Int):Option Int :=
 cond (cond (decide (a1 < 0)) true (decide ((a0.Words.length:Int)≤a1))) (some 0) ((Xs a0.Words a1).bind fun x2=>some x2)
noncomputable def Zq4 (a0:Int) (a1:(List Int)) (s0_:(Bool×Int)):Option ((Bool×Int) ⊕ Bool) :=
 cond (decide (s0_.2 < (a1.length:Int))) ((Xs a1 s0_.2).bind fun x4=>cond s0_.1 ((Zg3 a0 x4).bind fun y5=>some (.inl ((cond s0_.1 y5 false),(IntKind.i64.wrap (s0_.2+1))))) (some (.inl (false,(IntKind.i64.wrap (s0_.2+1)))))) (some (.inr s0_.1))
noncomputable def Zq5 (a1:(List Int)) (y2:(Int×Bool)) (s1_:(Int×(List Int))):Option ((Int×(List Int)) ⊕ (List Int)) :=
 cond (decide (s1_.1 < (a1.length:Int))) ((Xs a1 s1_.1).bind fun x16=>(Vr ((IntKind.i64.wrap (Int.tdiv 64 y2.1))≠0)).bind fun u17=>(Xs s1_.2 (IntKind.i64.wrap (Int.tdiv s1_.1 (IntKind.i64.wrap (Int.tdiv 64 y2.1))))).bind fun x18=>(Vr ((IntKind.i64.wrap (Int.tdiv 64 y2.1))≠0)).bind fun u19=>(Vr (0≤(IntKind.i64.wrap ((Int.tmod s1_.1 (IntKind.i64.wrap (Int.tdiv 64 y2.1))) * y2.1)))).bind fun u20=>some (.inl ((IntKind.i64.wrap (s1_.1+1)),(Zka s1_.2 (IntKind.i64.wrap (Int.tdiv s1_.1 (IntKind.i64.wrap (Int.tdiv 64 y2.1)))) (IntKind.u64.wrap (Zci .u64 x18 (IntKind.u64.wrap (x16 * 2 ^ min (Int.toNat (IntKind.i64.wrap ((Int.tmod s1_.1 (IntKind.i64.wrap (Int.tdiv 64 y2.1))) * y2.1))) 64)))))))) (some (.inr s1_.2))
noncomputable def Zrz (a0:Int) (a1:(List Int)):Option ((List Int)×Bool) :=
 (Gx a0).bind fun y2=>(Z3 (Zq4 a0 a1) (y2.2,0)).bind fun (z8:Bool)=>cond (!z8) (some (([]:(List Int)),false)) ((Zg4 a0 (a1.length:Int)).bind fun y11=>(Zj0 8 y11 (0:Int)).bind fun l12=>cond (y2.1 == 0) (some (l12,true)) ((Vr (y2.1≠0)).bind fun u14=>(Z3 (Zq5 a1 y2) (0,l12)).bind fun (z24:(List Int))=>some (z24,true)))
noncomputable def Zko (a0:Za) (s0_:(Int×(List Int))):Option ((Int×(List Int)) ⊕ (List Int)) :=
 cond (decide (s0_.1 < (a0.Kids.length:Int))) ((Xs a0.Kids s0_.1).bind fun x2=>(Xx x2 0).bind fun y3=>(Zf9 8 s0_.2 ([y3]:List Int)).bind fun l4=>some (.inl ((IntKind.i64.wrap (s0_.1+1)),l4))) (some (.inr s0_.2))
noncomputable def Zjp (a0:Za):Option (List Int) :=
 (Z3 (Zko a0) (0,([]:List Int))).bind fun (z6:(List Int))=>(Zrz (IntKind.i64.wrap (a0.Kind - 2)) z6).bind fun y8=>some y8.1
structure Zh where
 words:(List Int)
 next:Int
noncomputable def Gm (Yk:(Zh→Int→Za→Option Zh)) (Yh:(Zh→Int→Za→Option Zh)) (Z8:(Zh→Int→(List Za)→Option Zh)) (Yi:(Zh→Int→Za→Option Zh)) (a0:Zh) (a1:Int) (a2:Za):Option Zh :=
 cond (a2.Kind == 0) (some (⟨a0.words,a0.next⟩:Zh)) ((Zi2 a2).bind fun y2=>(Zdo y2).bind fun y4=>(cond (cond (y2.Kind == 1) (y4.1 == 0) false) (some (-1)) (some (IntKind.i64.wrap ((IntKind.i64.wrap (a0.next - a1)) - 1)))).bind fun (z5:Int)=>(Zhy (⟨y2.Kind,z5,y2.Data,y2.Ptrs,y2.Code,y2.Count,y2.Segment,y2.Double⟩:Xk)).bind fun y10=>(Xs a0.words a1).bind fun x11=>(Yh (⟨(Zka a0.words a1 y10.1),(IntKind.i64.wrap (a0.next+y4.1))⟩:Zh) a0.next a2).bind fun y13=>some (⟨y13.words,y13.next⟩:Zh))
noncomputable def Vx (Yk:(Zh→Int→Za→Option Zh)) (Yh:(Zh→Int→Za→Option Zh)) (Z8:(Zh→Int→(List Za)→Option Zh)) (Yi:(Zh→Int→Za→Option Zh)) (a0:Zh) (a1:Int) (a2:Za):Option Zh :=
 cond (a2.Kind == 1) ((Vr (0 < List.length a0.words∧0≤a1∧a1≤(List.length a0.words:Int))).bind fun u1=>(Z8 (⟨(Zot a0.words a1 a2.Words),a0.next⟩:Zh) (IntKind.i64.wrap (a1+((min (List.length a2.Words) (Int.toNat ((List.length a0.words:Int) - a1)):Nat):Int))) a2.Kids).bind fun y3=>some (⟨y3.words,y3.next⟩:Zh)) (cond (a2.Kind == 8) ((Z8 (⟨a0.words,a0.next⟩:Zh) a1 a2.Kids).bind fun y4=>some (⟨y4.words,y4.next⟩:Zh)) (cond (a2.Kind == 9) ((Yi (⟨a0.words,a0.next⟩:Zh) a1 a2).bind fun y5=>some (⟨y5.words,y5.next⟩:Zh)) ((Vr (0 < List.length a0.words∧0≤a1∧a1≤(List.length a0.words:Int))).bind fun u6=>(Zjp a2).bind fun y7=>some (⟨(Zot a0.words a1 y7),a0.next⟩:Zh))))
noncomputable def Zfr (Yk:(Zh→Int→Za→Option Zh)) (a1:Int) (a2:(List Za)) (s0_:(Int×(List Int)×Int)):Option ((Int×(List Int)×Int) ⊕ ((List Int)×Int)) :=
 cond (decide (s0_.1 < (a2.length:Int))) ((Xs a2 s0_.1).bind fun x2=>(Yk (⟨s0_.2.1,s0_.2.2⟩:Zh) (IntKind.i64.wrap (a1+s0_.1)) x2).bind fun y3=>some (.inl ((IntKind.i64.wrap (s0_.1+1)),y3.words,y3.next))) (some (.inr (s0_.2.1,s0_.2.2)))
noncomputable def Vb (Yk:(Zh→Int→Za→Option Zh)) (Yh:(Zh→Int→Za→Option Zh)) (Z8:(Zh→Int→(List Za)→Option Zh)) (Yi:(Zh→Int→Za→Option Zh)) (a0:Zh) (a1:Int) (a2:(List Za)):Option Zh :=
 (Z3 (Zfr Yk a1 a2) (0,a0.words,a0.next)).bind fun (z5:((List Int)×Int))=>some (⟨z5.1,z5.2⟩:Zh)
noncomputable def Zga (a1:Int) (a2:Za) (y2:(Int×Int)) (s0_:(Int×(List Int))):Option ((Int×(List Int)) ⊕ (List Int)) :=
 cond (decide (s0_.1 < (a2.Kids.length:Int))) ((Xs a2.Kids s0_.1).bind fun x9=>(Vr (0 < List.length s0_.2∧0≤(IntKind.i64.wrap ((IntKind.i64.wrap (a1+1))+(IntKind.i64.wrap (s0_.1 * (IntKind.i64.wrap (y2.1+y2.2))))))∧(IntKind.i64.wrap ((IntKind.i64.wrap (a1+1))+(IntKind.i64.wrap (s0_.1 * (IntKind.i64.wrap (y2.1+y2.2))))))≤(List.length s0_.2:Int))).bind fun u10=>some (.inl ((IntKind.i64.wrap (s0_.1+1)),(Zot s0_.2 (IntKind.i64.wrap ((IntKind.i64.wrap (a1+1))+(IntKind.i64.wrap (s0_.1 * (IntKind.i64.wrap (y2.1+y2.2)))))) x9.Words)))) (some (.inr s0_.2))
noncomputable def Zgb (Z8:(Zh→Int→(List Za)→Option Zh)) (a1:Int) (a2:Za) (y2:(Int×Int)) (s1_:(Int×(List Int)×Int)):Option ((Int×(List Int)×Int) ⊕ ((List Int)×Int)) :=
 cond (decide (s1_.1 < (a2.Kids.length:Int))) ((Xs a2.Kids s1_.1).bind fun x15=>(Z8 (⟨s1_.2.1,s1_.2.2⟩:Zh) (IntKind.i64.wrap ((IntKind.i64.wrap ((IntKind.i64.wrap (a1+1))+(IntKind.i64.wrap (s1_.1 * (IntKind.i64.wrap (y2.1+y2.2))))))+y2.1)) x15.Kids).bind fun y16=>some (.inl ((IntKind.i64.wrap (s1_.1+1)),y16.words,y16.next))) (some (.inr (s1_.2.1,s1_.2.2)))
noncomputable def Zd4 (Yk:(Zh→Int→Za→Option Zh)) (Yh:(Zh→Int→Za→Option Zh)) (Z8:(Zh→Int→(List Za)→Option Zh)) (Yi:(Zh→Int→Za→Option Zh)) (a0:Zh) (a1:Int) (a2:Za):Option Zh :=
 (Zc5 a2).bind fun y2=>(cond (decide (0 < (a2.Kids.length:Int))) ((Zhy (⟨1,(a2.Kids.length:Int),y2.1,y2.2,0,0,0,false⟩:Xk)).bind fun y4=>(Xs a0.words a1).bind fun x5=>some (Zka a0.words a1 y4.1)) (some a0.words)).bind fun (z3:(List Int))=>(Z3 (Zga a1 a2 y2) (0,z3)).bind fun (z13:(List Int))=>(Z3 (Zgb Z8 a1 a2 y2) (0,z13,a0.next)).bind fun (z18:((List Int)×Int))=>some (⟨z18.1,z18.2⟩:Zh)
noncomputable def Z0:Nat→((Zh→Int→Za→Option Zh)×(Zh→Int→Za→Option Zh)×(Zh→Int→(List Za)→Option Zh)×(Zh→Int→Za→Option Zh))
 | 0=>((fun _ _ _=>none),(fun _ _ _=>none),(fun _ _ _=>none),(fun _ _ _=>none))
 | k+1=>(Gm ((Z0 k).1) ((Z0 k).2.1) ((Z0 k).2.2.1) ((Z0 k).2.2.2),Vx ((Z0 k).1) ((Z0 k).2.1) ((Z0 k).2.2.1) ((Z0 k).2.2.2),Vb ((Z0 k).1) ((Z0 k).2.1) ((Z0 k).2.2.1) ((Z0 k).2.2.2),Zd4 ((Z0 k).1) ((Z0 k).2.1) ((Z0 k).2.2.1) ((Z0 k).2.2.2))
noncomputable def Zb2 (a0:Zh) (a1:Int) (a2:Za):Option Zh:=lim fun k=>(Z0 k).1 a0 a1 a2
noncomputable def Us (a0:Za) (a1:Int):Option ((List Int)×Bool) :=
 (cond (a0.Kind == 10) (some true) ((Zh0 a0).bind fun y4=>some (cond (a0.Kind == 10) true (!y4)))).bind fun (z2:Bool)=>cond z2 (some (([]:(List Int)),false)) ((Zjd a0).bind fun y7=>(Zey y7).bind fun y9=>cond (cond (decide (a1 < (IntKind.i64.wrap (1+y9)))) true (decide (131072 < (IntKind.i64.wrap (1+y9))))) (some (([]:(List Int)),false)) ((Zj0 8 (IntKind.i64.wrap (1+y9)) (0:Int)).bind fun l11=>(Zb2 (⟨l11,1⟩:Zh) 0 y7).bind fun y13=>some (y13.words,true)))
noncomputable def Ql (a0:List Int):Option (List Int) :=
 Zf9 8 ([]:List Int) a0
noncomputable def G4 (a0:(List (List Int))) (s0_:(Int×(List (List Int)))):Option ((Int×(List (List Int))) ⊕ (List (List Int))) :=
 cond (decide (s0_.1 < (a0.length:Int))) ((Xs a0 s0_.1).bind fun x4=>(Ql x4).bind fun y5=>(Xs s0_.2 s0_.1).bind fun x6=>some (.inl ((IntKind.i64.wrap (s0_.1+1)),(Zka s0_.2 s0_.1 y5)))) (some (.inr s0_.2))
noncomputable def Zge (a0:(List (List Int))):Option (List (List Int)) :=
 (Zj0 24 (a0.length:Int) ([]:(List Int))).bind fun l2=>(Z3 (G4 a0) (0,l2)).bind fun (z9:(List (List Int)))=>some z9
structure Zz where
 segments:(List (List Int))
 size:Int
 left:Int
noncomputable def Zir (a0:(List (List Int))):Option (Option Zz) :=
 (Zge a0).bind fun y2=>some (some (⟨y2,0,0⟩:Zz))
structure X2 where
 Depth:Int
 Weight:Int
 MaxD:Int
 MaxOut:Int
noncomputable def Zam :Option X2 :=
 some (⟨64,65536,0,0⟩:X2)
noncomputable def Za1 (a0:Int) (a1:Int):Option Int :=
 some (if a1 < (if a0 < 0 then 0 else a0) then a1 else (if a0 < 0 then 0 else a0))
noncomputable def Zh3 (a0:X2):Option X2 :=
 (Za1 a0.Depth 64).bind fun y5=>(Za1 a0.Weight 65536).bind fun y6=>(Za1 a0.MaxD 4096).bind fun y7=>(Za1 a0.MaxOut 131072).bind fun y8=>some (⟨y5,y6,y7,y8⟩:X2)
noncomputable def Zhv (a0:(Option Zz)):Option Int :=
 cond (Option.isNone a0) (some 0) ((a0).bind fun x4=>some (x4.segments.length:Int))
noncomputable def Zb1 (a0:(Option Zz)) (a1:Int):Option Bool :=
 (cond (decide (0≤a1)) ((Zhv a0).bind fun y4=>some (cond (decide (0≤a1)) (decide (a1 < y4)) false)) (some false)).bind fun (z2:Bool)=>some z2
noncomputable def Zc3 (a0:(Option Zz)) (a1:Int):Option Int :=
 (Zb1 a0 a1).bind fun y2=>cond (!y2) (some 0) ((a0).bind fun x5=>(Xs x5.segments a1).bind fun x6=>some (x6.length:Int))
noncomputable def Zbb (a0:(Option Zz)) (a1:Int) (a2:Int) (a3:Int):Option Bool :=
 ((Zb1 a0 a1).bind fun y8=>cond y8 (cond (decide (0≤a2)) (cond (decide (0≤a3)) ((Zc3 a0 a1).bind fun y9=>cond (decide (a3≤y9)) ((Zc3 a0 a1).bind fun y10=>some (cond (cond (cond (cond y8 (decide (0≤a2)) false) (decide (0≤a3)) false) (decide (a3≤y9)) false) (decide (a2≤(IntKind.i64.wrap (y10 - a3)))) false)) (some false)) (some false)) (some false)) (some false)).bind fun (z4:Bool)=>some z4
noncomputable def Vd (a0:(Option Zz)) (a1:Int) (a2:Int):Option (Int×Bool) :=
 (Zbb a0 a1 a2 1).bind fun y2=>cond (!y2) (some (0,false)) ((a0).bind fun x6=>(Xs x6.segments a1).bind fun x7=>(Xs x7 a2).bind fun x8=>some (x8,true))
noncomputable def Zgs (a0:(Option Zz)) (a1:Int) (a2:Int) (a3:Int):Option ((List Int)×Bool) :=
 (Zbb a0 a1 a2 a3).bind fun y2=>cond (!y2) (some (([]:(List Int)),false)) ((a0).bind fun x7=>(Xs x7.segments a1).bind fun x8=>(Zjw x8 a2 (IntKind.i64.wrap (a2+a3))).bind fun l9=>(Ql l9).bind fun y10=>some (y10,true))
structure Qy where
 P:Xk
 Segment:Int
 At:Int
noncomputable def Zhx (a0:(Option Zz)) (a1:Xk) (a2:Int) (a3:Int):Option (Qy×Int) :=
 cond (a1.Kind == 4) (some ((⟨⟨0,0,0,0,0,0,0,false⟩,0,0⟩:Qy),9)) ((Zdo a1).bind fun y2=>cond (!y2.2) (some ((⟨⟨0,0,0,0,0,0,0,false⟩,0,0⟩:Qy),8)) ((Zbb a0 a2 a3 y2.1).bind fun y4=>cond (!y4) (some ((⟨⟨0,0,0,0,0,0,0,false⟩,0,0⟩:Qy),7)) (some ((⟨⟨a1.Kind,0,a1.Data,a1.Ptrs,a1.Code,a1.Count,a1.Segment,a1.Double⟩,a2,a3⟩:Qy),0))))
noncomputable def Znh (a0:(Option Zz)) (a1:Int) (a2:Int):Option (Qy×Int) :=
 (Zgs a0 a1 a2 2).bind fun y2=>cond (!y2.2) (some ((⟨⟨0,0,0,0,0,0,0,false⟩,0,0⟩:Qy),7)) ((Xs y2.1 0).bind fun x3=>(Zbj x3).bind fun y4=>(Xs y2.1 1).bind fun x5=>(Zbj x5).bind fun y6=>cond (cond (y4.Kind != 3) true y4.Double) (some ((⟨⟨0,0,0,0,0,0,0,false⟩,0,0⟩:Qy),8)) (cond (cond (y6.Kind != 4) (y6.Off != 0) false) (some ((⟨⟨0,0,0,0,0,0,0,false⟩,0,0⟩:Qy),8)) ((Zhx a0 y6 y4.Segment y4.Off).bind fun y8=>some (y8.1,y8.2))))
noncomputable def Zni (a0:(Option Zz)) (a1:Int) (a2:Int):Option (Qy×Int) :=
 (Vd a0 a1 a2).bind fun y2=>cond (!y2.2) (some ((⟨⟨0,0,0,0,0,0,0,false⟩,0,0⟩:Qy),7)) ((Zbj y2.1).bind fun y4=>(Zhx a0 y4 a1 (IntKind.i64.wrap ((IntKind.i64.wrap (a2+1))+y4.Off))).bind fun y6=>some (y6.1,y6.2))
noncomputable def Zng (a0:(Option Zz)) (a1:Int) (a2:Int):Option (Qy×Int) :=
 (Vd a0 a1 a2).bind fun y2=>cond (!y2.2) (some ((⟨⟨0,0,0,0,0,0,0,false⟩,0,0⟩:Qy),7)) ((Zbj y2.1).bind fun y4=>cond (y4.Kind == 0) (some ((⟨⟨0,0,0,0,0,0,0,false⟩,0,0⟩:Qy),0)) (cond (cond (y4.Kind == 3) y4.Double false) ((Znh a0 y4.Segment y4.Off).bind fun y6=>some (y6.1,y6.2)) (cond (y4.Kind == 3) ((Zni a0 y4.Segment y4.Off).bind fun y8=>some (y8.1,y8.2)) ((Zhx a0 y4 a1 (IntKind.i64.wrap ((IntKind.i64.wrap (a2+1))+y4.Off))).bind fun y10=>some (y10.1,y10.2)))))
structure Zj where
 a:(Option Zz)
 kind:Int
 segment:Int
 at_:Int
 words:Int
 ptrs:Int
 count:Int
 code:Int
 index:Int
noncomputable def Zgw (a0:Zj):Option (Zj×Int) :=
 (Vd a0.a a0.segment a0.at_).bind fun y2=>(Zbj y2.1).bind fun y4=>cond (cond (cond (cond (y4.Kind != 0) (y4.Kind != 1) false) true (decide (y4.Off < 0))) true (decide (a0.count < (IntKind.i64.wrap (y4.Off * (IntKind.i64.wrap (y4.Data+y4.Ptrs))))))) (some ((⟨(none:(Option Zz)),0,0,0,0,0,0,0,0⟩:Zj),8)) (some ((⟨a0.a,a0.kind,a0.segment,a0.at_,y4.Data,y4.Ptrs,y4.Off,a0.code,a0.index⟩:Zj),0))
noncomputable def Zjc (a0:(Option Zz)) (a1:Int) (a2:Int):Option (Zj×Int) :=
 (Zng a0 a1 a2).bind fun y2=>cond (cond (y2.2 != 0) true (y2.1.P.Kind == 0)) (some ((⟨(none:(Option Zz)),0,0,0,0,0,0,0,0⟩:Zj),y2.2)) (cond (y2.1.P.Kind == 1) (some ((⟨a0,1,y2.1.Segment,y2.1.At,y2.1.P.Data,y2.1.P.Ptrs,0,0,0⟩:Zj),0)) (cond (y2.1.P.Code == 7) ((Zgw (⟨a0,(IntKind.i64.wrap (y2.1.P.Code+2)),y2.1.Segment,y2.1.At,0,0,y2.1.P.Count,0,0⟩:Zj)).bind fun y4=>some (y4.1,y4.2)) (some ((⟨a0,(IntKind.i64.wrap (y2.1.P.Code+2)),y2.1.Segment,y2.1.At,0,0,y2.1.P.Count,0,0⟩:Zj),0))))
noncomputable def Zd2 (a0:(Option Zz)):Option (Zj×Int) :=
 (Zjc a0 0 0).bind fun y2=>some (y2.1,y2.2)
noncomputable def Qa (a0:Zj):Option Int :=
 some a0.kind
noncomputable def Xj (a0:Zj):Option Int :=
 cond (a0.kind == 1) (some a0.ptrs) (some a0.count)
noncomputable def Zh4 (a0:Zj):Option Int :=
 (Qa a0).bind fun y2=>cond (y2 == 0) (some 0) (((Qa a0).bind fun y8=>cond (y8 == 9) ((Xj a0).bind fun y9=>some (cond (y8 == 9) (decide (0 < y9)) false)) (some false)).bind fun (z5:Bool)=>cond z5 (some 2) (some 1))
noncomputable def K0 (a0:Zj):Option Int :=
 cond (a0.kind == 1) (some a0.words) (cond (a0.kind == 10) (some 1) (some 0))
noncomputable def Zgv (a0:Zj):Option (Int×Int) :=
 cond (a0.kind != 9) (some (0,0)) (some (a0.words,a0.ptrs))
noncomputable def Zez (a0:Zj):Option Int :=
 (Qa a0).bind fun y2=>cond (y2 == 0) (some 0) (cond (y2 == 1) ((K0 a0).bind fun y5=>(Xj a0).bind fun y6=>some (IntKind.i64.wrap ((IntKind.i64.wrap (1+y5))+y6))) (cond (y2 == 9) ((Zgv a0).bind fun y8=>(Xj a0).bind fun y10=>some (IntKind.i64.wrap (1+(IntKind.i64.wrap (y10 * (IntKind.i64.wrap ((IntKind.i64.wrap (1+y8.1))+y8.2))))))) ((Xj a0).bind fun y12=>some (IntKind.i64.wrap (1+y12)))))
noncomputable def Zcm (a0:Zj) (a1:Int):Option (Zj×Int) :=
 (cond (decide (a1 < 0)) (some true) ((Xj a0).bind fun y4=>some (cond (decide (a1 < 0)) true (decide (y4≤a1))))).bind fun (z2:Bool)=>cond z2 (some ((⟨(none:(Option Zz)),0,0,0,0,0,0,0,0⟩:Zj),0)) (cond (a0.kind == 1) ((Zjc a0.a a0.segment (IntKind.i64.wrap ((IntKind.i64.wrap (a0.at_+a0.words))+a1))).bind fun y7=>some (y7.1,y7.2)) (cond (a0.kind == 8) ((Zjc a0.a a0.segment (IntKind.i64.wrap (a0.at_+a1))).bind fun y9=>some (y9.1,y9.2)) (cond (a0.kind == 9) (some ((⟨a0.a,1,a0.segment,(IntKind.i64.wrap ((IntKind.i64.wrap (a0.at_+1))+(IntKind.i64.wrap (a1 * (IntKind.i64.wrap (a0.words+a0.ptrs)))))),a0.words,a0.ptrs,0,0,0⟩:Zj),0)) (some ((⟨a0.a,10,a0.segment,a0.at_,0,0,0,(IntKind.i64.wrap (a0.kind - 2)),a1⟩:Zj),0)))))
structure Zk where
 left:Int
noncomputable def Vz (Yw:(Zk→Zj→Int→Option (Int×Zk))) (Yv:(Zk→Zj→Int→Option (Int×Zk))) (Yx:(Zk→Zj→Int→Option (Int×Zk))) (a0:Zk) (a1:Zj) (a2:Int):Option (Int×Zk) :=
 ((Zh4 a1).bind fun y6=>cond (decide (a2 < y6)) (some true) ((Zez a1).bind fun y7=>some (cond (decide (a2 < y6)) true (decide (a0.left < y7))))).bind fun (z3:Bool)=>cond z3 (some (3,a0)) ((Zez a1).bind fun y10=>(Qa a1).bind fun y12=>(cond (y12 == 1) (some (y12 == 1)) (some (y12 == 8))).bind fun (z13:Bool)=>cond z13 ((Yv (⟨(IntKind.i64.wrap (a0.left - y10))⟩:Zk) a1 (IntKind.i64.wrap (a2 - 1))).bind fun y16=>some (y16.1,y16.2)) (cond (y12 == 9) ((Yx (⟨(IntKind.i64.wrap (a0.left - y10))⟩:Zk) a1 (IntKind.i64.wrap (a2 - 1))).bind fun y18=>some (y18.1,y18.2)) (some (0,(⟨(IntKind.i64.wrap (a0.left - y10))⟩:Zk)))))
noncomputable def Zg1 (Yw:(Zk→Zj→Int→Option (Int×Zk))) (a1:Zj) (a2:Int) (y2:Int) (s0_:(Int×Int)):Option ((Int×Int) ⊕ ((Int×Int) ⊕ Int)) :=
 cond (decide (s0_.1 < y2)) ((Zcm a1 s0_.1).bind fun y4=>cond (y4.2 != 0) (some (.inr (.inl (y4.2,s0_.2)))) ((Yw (⟨s0_.2⟩:Zk) y4.1 a2).bind fun y6=>cond (y6.1 != 0) (some (.inr (.inl (y6.1,y6.2.left)))) (some (.inl ((IntKind.i64.wrap (s0_.1+1)),y6.2.left))))) (some (.inr (.inr s0_.2)))
noncomputable def Up (Yw:(Zk→Zj→Int→Option (Int×Zk))) (Yv:(Zk→Zj→Int→Option (Int×Zk))) (Yx:(Zk→Zj→Int→Option (Int×Zk))) (a0:Zk) (a1:Zj) (a2:Int):Option (Int×Zk) :=
 (Xj a1).bind fun y2=>(Z3 (Zg1 Yw a1 a2 y2) (0,a0.left)).bind fun (z10:((Int×Int) ⊕ Int))=>match z10 with | .inl z10=>some (z10.1,(⟨z10.2⟩:Zk)) | .inr z10=>some (0,(⟨z10⟩:Zk))
noncomputable def Zem (Yv:(Zk→Zj→Int→Option (Int×Zk))) (a1:Zj) (a2:Int) (y2:Int) (s0_:(Int×Int)):Option ((Int×Int) ⊕ ((Int×Int) ⊕ Int)) :=
 cond (decide (s0_.1 < y2)) ((Zcm a1 s0_.1).bind fun y4=>cond (y4.2 != 0) (some (.inr (.inl (y4.2,s0_.2)))) ((Yv (⟨s0_.2⟩:Zk) y4.1 (IntKind.i64.wrap (a2 - 1))).bind fun y6=>cond (y6.1 != 0) (some (.inr (.inl (y6.1,y6.2.left)))) (some (.inl ((IntKind.i64.wrap (s0_.1+1)),y6.2.left))))) (some (.inr (.inr s0_.2)))
noncomputable def Zcd (Yw:(Zk→Zj→Int→Option (Int×Zk))) (Yv:(Zk→Zj→Int→Option (Int×Zk))) (Yx:(Zk→Zj→Int→Option (Int×Zk))) (a0:Zk) (a1:Zj) (a2:Int):Option (Int×Zk) :=
 (Xj a1).bind fun y2=>(Z3 (Zem Yv a1 a2 y2) (0,a0.left)).bind fun (z10:((Int×Int) ⊕ Int))=>match z10 with | .inl z10=>some (z10.1,(⟨z10.2⟩:Zk)) | .inr z10=>some (0,(⟨z10⟩:Zk))
noncomputable def Ya:Nat→((Zk→Zj→Int→Option (Int×Zk))×(Zk→Zj→Int→Option (Int×Zk))×(Zk→Zj→Int→Option (Int×Zk)))
 | 0=>((fun _ _ _=>none),(fun _ _ _=>none),(fun _ _ _=>none))
 | k+1=>(Vz ((Ya k).1) ((Ya k).2.1) ((Ya k).2.2),Up ((Ya k).1) ((Ya k).2.1) ((Ya k).2.2),Zcd ((Ya k).1) ((Ya k).2.1) ((Ya k).2.2))
noncomputable def Zav (a0:Zk) (a1:Zj) (a2:Int):Option (Int×Zk):=lim fun k=>(Ya k).1 a0 a1 a2
noncomputable def Gz (a0:(Option Zz)) (a1:X2):Option (Int×Int) :=
 (Zh3 a1).bind fun y2=>(Zd2 a0).bind fun y4=>cond (y4.2 != 0) (some (0,y4.2)) ((Zav (⟨y2.Weight⟩:Zk) y4.1 y2.Depth).bind fun y6=>cond (y6.1 != 0) (some (0,y6.1)) (some ((IntKind.i64.wrap (y2.Weight - y6.2.left)),0)))
noncomputable def Uy (a0:Zf) (a1:Int):Option ((List Int)×Bool) :=
 (Zj5 a0).bind fun y2=>cond (!y2) (some (([]:(List Int)),false)) ((Zj6 a0).bind fun y5=>(Us y5 a1).bind fun y6=>cond (!y6.2) (some (([]:(List Int)),false)) ((Zir ([y6.1]:List (List Int))).bind fun y10=>(Zam).bind fun y11=>(Gz y10 y11).bind fun y12=>cond (y12.2 != 0) (some (([]:(List Int)),false)) (some (y6.1,true))))
noncomputable def Zgj (a0:Zj):Option Int :=
 (Qa a0).bind fun y2=>cond (y2 == 0) (some 0) (cond (y2 == 1) ((K0 a0).bind fun y5=>(Xj a0).bind fun y6=>some (IntKind.i64.wrap ((IntKind.i64.wrap (1+y5))+y6))) (cond (y2 == 8) ((Xj a0).bind fun y8=>some (IntKind.i64.wrap (1+y8))) (some 1)))
noncomputable def Zh2 (a0:Zj):Option Bool :=
 ((Qa a0).bind fun y8=>cond (y8 == 1) (some true) ((Qa a0).bind fun y9=>(Zex y9).bind fun y10=>some (cond (y8 == 1) true y10))).bind fun (z4:Bool)=>some z4
noncomputable def Zry (a0:(List Int)) (a1:Int) (a2:Int):Option Int :=
 (Gx a1).bind fun y2=>cond (cond (y2.1 == 0) true (decide (a2 < 0))) (some 0) ((Vr (y2.1≠0)).bind fun u4=>(Vr ((IntKind.i64.wrap (Int.tdiv 64 y2.1))≠0)).bind fun u6=>cond (decide ((a0.length:Int)≤(IntKind.i64.wrap (Int.tdiv a2 (IntKind.i64.wrap (Int.tdiv 64 y2.1)))))) (some 0) ((Vr ((IntKind.i64.wrap (Int.tdiv 64 y2.1))≠0)).bind fun u12=>(Xs a0 (IntKind.i64.wrap (Int.tdiv a2 (IntKind.i64.wrap (Int.tdiv 64 y2.1))))).bind fun x13=>(Vr ((IntKind.i64.wrap (Int.tdiv 64 y2.1))≠0)).bind fun u14=>(Vr (0≤(IntKind.i64.wrap ((Int.tmod a2 (IntKind.i64.wrap (Int.tdiv 64 y2.1))) * y2.1)))).bind fun u15=>(Vr (0≤y2.1)).bind fun u16=>some (IntKind.u64.wrap (Qq .u64 (Int.fdiv x13 (2 ^ min (Int.toNat (IntKind.i64.wrap ((Int.tmod a2 (IntKind.i64.wrap (Int.tdiv 64 y2.1))) * y2.1))) 64)) (IntKind.u64.wrap ((IntKind.u64.wrap (1 * 2 ^ min (Int.toNat y2.1) 64)) - 1))))))
noncomputable def Zfv (a0:Zj):Option Int :=
 (Gx a0.code).bind fun y2=>cond (y2.1 == 0) (some 0) ((Vr (y2.1≠0)).bind fun u4=>(Vr ((IntKind.i64.wrap (Int.tdiv 64 y2.1))≠0)).bind fun u7=>(Vd a0.a a0.segment (IntKind.i64.wrap (a0.at_+(IntKind.i64.wrap (Int.tdiv a0.index (IntKind.i64.wrap (Int.tdiv 64 y2.1))))))).bind fun y8=>(Vr ((IntKind.i64.wrap (Int.tdiv 64 y2.1))≠0)).bind fun u11=>(Zry ([y8.1]:List Int) a0.code (Int.tmod a0.index (IntKind.i64.wrap (Int.tdiv 64 y2.1)))).bind fun y12=>some y12)
noncomputable def Zhz (a0:Zj) (a1:Int):Option Int :=
 (cond (decide (a1 < 0)) (some true) ((K0 a0).bind fun y4=>some (cond (decide (a1 < 0)) true (decide (y4≤a1))))).bind fun (z2:Bool)=>cond z2 (some 0) (cond (a0.kind == 10) ((Zfv a0).bind fun y7=>some y7) ((Vd a0.a a0.segment (IntKind.i64.wrap (a0.at_+a1))).bind fun y9=>some y9.1))
structure Z5 where
 left:Int
noncomputable def Zek (a1:Zj) (y12:Int) (s0_:(Int×(List Int))):Option ((Int×(List Int)) ⊕ (List Int)) :=
 cond (decide (s0_.1 < y12)) ((Zhz a1 s0_.1).bind fun y13=>(Zf9 8 s0_.2 ([y13]:List Int)).bind fun l14=>some (.inl ((IntKind.i64.wrap (s0_.1+1)),l14))) (some (.inr s0_.2))
noncomputable def Zel (Qj:(Z5→Zj→Int→Option (Za×Int×Z5))) (a1:Zj) (a2:Int) (y18:Int) (s1_:(Int×(List Za)×Int)):Option ((Int×(List Za)×Int) ⊕ ((Int×Int) ⊕ ((List Za)×Int))) :=
 cond (decide (s1_.1 < y18)) ((Zcm a1 s1_.1).bind fun y20=>cond (y20.2 != 0) (some (.inr (.inl (y20.2,s1_.2.2)))) ((Qj (⟨s1_.2.2⟩:Z5) y20.1 (IntKind.i64.wrap (a2 - 1))).bind fun y22=>cond (y22.2.1 != 0) (some (.inr (.inl (y22.2.1,y22.2.2.left)))) ((Zf9 56 s1_.2.1 ([y22.1]:List Za)).bind fun l23=>some (.inl ((IntKind.i64.wrap (s1_.1+1)),l23,y22.2.2.left))))) (some (.inr (.inr (s1_.2.1,s1_.2.2))))
noncomputable def K2 (Qj:(Z5→Zj→Int→Option (Za×Int×Z5))) (a0:Z5) (a1:Zj) (a2:Int):Option (Za×Int×Z5) :=
 (Zgj a1).bind fun y2=>(cond (decide ((IntKind.i64.wrap (a0.left - y2)) < 0)) (some true) (cond (a2 == 0) ((Zh2 a1).bind fun y6=>some (cond (decide ((IntKind.i64.wrap (a0.left - y2)) < 0)) true (cond (a2 == 0) y6 false))) (some (cond (decide ((IntKind.i64.wrap (a0.left - y2)) < 0)) true false)))).bind fun (z4:Bool)=>cond z4 (some ((⟨0,[],[]⟩:Za),3,(⟨(IntKind.i64.wrap (a0.left - y2))⟩:Z5))) ((Qa a1).bind fun y10=>(K0 a1).bind fun y12=>(Z3 (Zek a1 y12) (0,([]:List Int))).bind fun (z16:(List Int))=>(Xj a1).bind fun y18=>(Z3 (Zel Qj a1 a2 y18) (0,([]:List Za),(IntKind.i64.wrap (a0.left - y2)))).bind fun (z27:((Int×Int) ⊕ ((List Za)×Int)))=>match z27 with | .inl z27=>some ((⟨0,[],[]⟩:Za),z27.1,(⟨z27.2⟩:Z5)) | .inr z27=>some ((⟨y10,z16,z27.1⟩:Za),0,(⟨z27.2⟩:Z5)))
noncomputable def Ud:Nat→(Z5→Zj→Int→Option (Za×Int×Z5))
 | 0=>(fun _ _ _=>none)
 | k+1=>K2 ((Ud k))
noncomputable def Zco (a0:Z5) (a1:Zj) (a2:Int):Option (Za×Int×Z5):=lim fun k=>(Ud k) a0 a1 a2
noncomputable def Zh1 (a0:Zj):Option (Za×Int) :=
 (Zco (⟨65536⟩:Z5) a0 64).bind fun y2=>some (y2.1,y2.2.1)
noncomputable def Zcn (a0:(Option Zz)) (a1:X2):Option (Za×Int) :=
 (Gz a0 a1).bind fun y2=>cond (y2.2 != 0) (some ((⟨0,[],[]⟩:Za),y2.2)) ((Zd2 a0).bind fun y4=>cond (y4.2 != 0) (some ((⟨0,[],[]⟩:Za),y4.2)) ((Zh1 y4.1).bind fun y6=>(Zjd y6.1).bind fun y8=>some (y8,y6.2)))
noncomputable def Qw (a0:(List Int)) (a1:(List Int)) (s0_:Int):Option (Int ⊕ (Unit ⊕ Unit)) :=
 cond (decide (s0_ < (a0.length:Int))) ((Xs a0 s0_).bind fun x3=>(Xs a1 s0_).bind fun x4=>cond (x3 != x4) (some (.inr (.inl ()))) (some (.inl (IntKind.i64.wrap (s0_+1))))) (some (.inr (.inr ())))
noncomputable def Xw (a0:(List Int)) (a1:(List Int)):Option Bool :=
 cond ((a0.length:Int) != (a1.length:Int)) (some false) ((Z3 (Qw a0 a1) 0).bind fun (z7:(Unit ⊕ Unit))=>match z7 with | .inl z7=>some false | .inr z7=>some true)
noncomputable def Zes (a0:(List Int)) (a1:X2):Option (Za×Int) :=
 (Zir ([a0]:List (List Int))).bind fun y25=>(Zcn y25 a1).bind fun y49=>cond (y49.2 != 0) (some ((⟨0,[],[]⟩:Za),y49.2)) ((Us y49.1 (a0.length:Int)).bind fun y134=>(cond y134.2 ((Xw y134.1 a0).bind fun y138=>some (cond (!y134.2) true (!y138))) (some true)).bind fun (z136:Bool)=>cond z136 (some ((⟨0,[],[]⟩:Za),5)) (some (y49.1,0)))
noncomputable def X5 (a0:Za) (a1:Int):Option Za :=
 cond (cond (decide (a1 < 0)) true (decide ((a0.Kids.length:Int)≤a1))) (some (⟨0,[],[]⟩:Za)) ((Xs a0.Kids a1).bind fun x2=>some x2)
noncomputable def Q9 (a0:Za) (s0_:(Int×(List Zx))):Option ((Int×(List Zx)) ⊕ (List Zx)) :=
 cond (decide (s0_.1 < (a0.Kids.length:Int))) ((Xs a0.Kids s0_.1).bind fun x2=>(Xx x2 0).bind fun y4=>(Xx x2 1).bind fun y5=>(Xx x2 2).bind fun y6=>(Zf9 32 s0_.2 ([(⟨(IntKind.i64.wrap (IntKind.u64.wrap (Qq .u64 y4 4294967295))),(IntKind.u8.wrap (Int.fdiv y4 (2 ^ min (Int.toNat 32) 64))),y5,y6⟩:Zx)]:List Zx)).bind fun l7=>some (.inl ((IntKind.i64.wrap (s0_.1+1)),l7))) (some (.inr s0_.2))
noncomputable def J5 (a0:Za):Option (List Zx) :=
 (Z3 (Q9 a0) (0,([]:List Zx))).bind fun (z9:(List Zx))=>some z9
noncomputable def Zc2 (X7:(Za→Option Zf)) (Xu:(Za→Option (List Zl))) (Qc:(Za→Option (List Zt))) (a0:Za):Option Zf :=
 cond (a0.Kind == 0) (some (⟨0,⟨0,[],[]⟩,⟨0,[],[]⟩,[],[],0,[]⟩:Zf)) ((Xx a0 0).bind fun y2=>(cond ((IntKind.i64.wrap (IntKind.u64.wrap (Qq .u64 y2 255))) == 1) ((X5 a0 0).bind fun y4=>(X5 a0 1).bind fun y5=>some ((IntKind.i64.wrap (IntKind.u64.wrap (Qq .u64 y2 255))),y4.Kind,y4.Words,y4.Kids,y5.Kind,y5.Words,y5.Kids,([]:(List Zx)),([]:(List Zl)),0,([]:(List Zt)))) (cond ((IntKind.i64.wrap (IntKind.u64.wrap (Qq .u64 y2 255))) == 2) ((X5 a0 0).bind fun y6=>(J5 y6).bind fun y7=>(X5 a0 1).bind fun y8=>(Xu y8).bind fun y9=>some ((IntKind.i64.wrap (IntKind.u64.wrap (Qq .u64 y2 255))),0,([]:(List Int)),([]:(List Za)),0,([]:(List Int)),([]:(List Za)),y7,y9,0,([]:(List Zt)))) (cond ((IntKind.i64.wrap (IntKind.u64.wrap (Qq .u64 y2 255))) == 3) ((X5 a0 0).bind fun y10=>(Qc y10).bind fun y11=>some ((IntKind.i64.wrap (IntKind.u64.wrap (Qq .u64 y2 255))),0,([]:(List Int)),([]:(List Za)),0,([]:(List Int)),([]:(List Za)),([]:(List Zx)),([]:(List Zl)),(IntKind.i64.wrap (IntKind.u64.wrap (Qq .u64 (Int.fdiv y2 (2 ^ min (Int.toNat 8) 64)) 255))),y11)) (some ((IntKind.i64.wrap (IntKind.u64.wrap (Qq .u64 y2 255))),0,([]:(List Int)),([]:(List Za)),0,([]:(List Int)),([]:(List Za)),([]:(List Zx)),([]:(List Zl)),0,([]:(List Zt))))))).bind fun (z3:(Int×Int×(List Int)×(List Za)×Int×(List Int)×(List Za)×(List Zx)×(List Zl)×Int×(List Zt)))=>some (⟨z3.1,⟨z3.2.1,z3.2.2.1,z3.2.2.2.1⟩,⟨z3.2.2.2.2.1,z3.2.2.2.2.2.1,z3.2.2.2.2.2.2.1⟩,z3.2.2.2.2.2.2.2.1,z3.2.2.2.2.2.2.2.2.1,z3.2.2.2.2.2.2.2.2.2.1,z3.2.2.2.2.2.2.2.2.2.2⟩:Zf))
noncomputable def Gq (X7:(Za→Option Zf)) (a0:Za) (s0_:(Int×(List Zl))):Option ((Int×(List Zl)) ⊕ (List Zl)) :=
 cond (decide (s0_.1 < (a0.Kids.length:Int))) ((Xs a0.Kids s0_.1).bind fun x2=>(Xx x2 0).bind fun y3=>(X5 x2 0).bind fun y4=>(X7 y4).bind fun y5=>(Zf9 208 s0_.2 ([(⟨(IntKind.i64.wrap (IntKind.u64.wrap (Qq .u64 y3 4294967295))),y5⟩:Zl)]:List Zl)).bind fun l6=>some (.inl ((IntKind.i64.wrap (s0_.1+1)),l6))) (some (.inr s0_.2))
noncomputable def V2 (X7:(Za→Option Zf)) (Xu:(Za→Option (List Zl))) (Qc:(Za→Option (List Zt))) (a0:Za):Option (List Zl) :=
 (Z3 (Gq X7 a0) (0,([]:List Zl))).bind fun (z8:(List Zl))=>some z8
noncomputable def Zaf (X7:(Za→Option Zf)) (a0:Za) (s0_:(Int×(List Zt))):Option ((Int×(List Zt)) ⊕ (List Zt)) :=
 cond (decide (s0_.1 < (a0.Kids.length:Int))) ((Xs a0.Kids s0_.1).bind fun x2=>(Xx x2 0).bind fun y4=>(cond ((IntKind.i64.wrap (IntKind.u64.wrap (Qq .u64 y4 255))) == 0) (some ((IntKind.i64.wrap (IntKind.u64.wrap (Qq .u64 y4 255))),(IntKind.i64.wrap (Int.fdiv y4 (2 ^ min (Int.toNat 8) 64))),([]:(List Za)),0,0,([]:(List Int)),([]:(List Za)),0,([]:(List Int)),([]:(List Za)),([]:(List Zx)),([]:(List Zl)),0,([]:(List Zt)))) ((cond ((IntKind.i64.wrap (IntKind.u64.wrap (Qq .u64 y4 255))) == 1) (some ((IntKind.i64.wrap (IntKind.u64.wrap (Qq .u64 y4 255))),((IntKind.i64.wrap (IntKind.u64.wrap (Qq .u64 y4 255))) == 1),(IntKind.i64.wrap (IntKind.u64.wrap (Qq .u64 y4 255))))) (some ((IntKind.i64.wrap (IntKind.u64.wrap (Qq .u64 y4 255))),((IntKind.i64.wrap (IntKind.u64.wrap (Qq .u64 y4 255))) == 2),(IntKind.i64.wrap (IntKind.u64.wrap (Qq .u64 y4 255)))))).bind fun (z6:(Int×Bool×Int))=>cond z6.2.1 ((X5 x2 0).bind fun y8=>some (z6.2.2,0,y8.Kids,0,0,([]:(List Int)),([]:(List Za)),0,([]:(List Int)),([]:(List Za)),([]:(List Zx)),([]:(List Zl)),0,([]:(List Zt)))) (cond (z6.1 == 3) ((X5 x2 0).bind fun y9=>(X7 y9).bind fun y10=>some (z6.2.2,0,([]:(List Za)),y10.Kind,y10.Old.Kind,y10.Old.Words,y10.Old.Kids,y10.New.Kind,y10.New.Words,y10.New.Kids,y10.Words,y10.Kids,y10.List_,y10.Ops)) (some (z6.2.2,0,([]:(List Za)),0,0,([]:(List Int)),([]:(List Za)),0,([]:(List Int)),([]:(List Za)),([]:(List Zx)),([]:(List Zl)),0,([]:(List Zt))))))).bind fun (z5:(Int×Int×(List Za)×Int×Int×(List Int)×(List Za)×Int×(List Int)×(List Za)×(List Zx)×(List Zl)×Int×(List Zt)))=>(Zf9 240 s0_.2 ([(⟨z5.1,z5.2.1,z5.2.2.1,⟨z5.2.2.2.1,⟨z5.2.2.2.2.1,z5.2.2.2.2.2.1,z5.2.2.2.2.2.2.1⟩,⟨z5.2.2.2.2.2.2.2.1,z5.2.2.2.2.2.2.2.2.1,z5.2.2.2.2.2.2.2.2.2.1⟩,z5.2.2.2.2.2.2.2.2.2.2.1,z5.2.2.2.2.2.2.2.2.2.2.2.1,z5.2.2.2.2.2.2.2.2.2.2.2.2.1,z5.2.2.2.2.2.2.2.2.2.2.2.2.2⟩⟩:Zt)]:List Zt)).bind fun l14=>some (.inl ((IntKind.i64.wrap (s0_.1+1)),l14))) (some (.inr s0_.2))
noncomputable def Zdi (X7:(Za→Option Zf)) (Xu:(Za→Option (List Zl))) (Qc:(Za→Option (List Zt))) (a0:Za):Option (List Zt) :=
 (Z3 (Zaf X7 a0) (0,([]:List Zt))).bind fun (z16:(List Zt))=>some z16
noncomputable def Ye:Nat→((Za→Option Zf)×(Za→Option (List Zl))×(Za→Option (List Zt)))
 | 0=>((fun _=>none),(fun _=>none),(fun _=>none))
 | k+1=>(Zc2 ((Ye k).1) ((Ye k).2.1) ((Ye k).2.2),V2 ((Ye k).1) ((Ye k).2.1) ((Ye k).2.2),Zdi ((Ye k).1) ((Ye k).2.1) ((Ye k).2.2))
noncomputable def Zj7 (a0:Za):Option Zf:=lim fun k=>(Ye k).1 a0
noncomputable def Zhh (Kt:(Za→Za→Option Bool)) (Zy:((List Za)→(List Za)→Option Bool)) (a0:Za) (a1:Za):Option Bool :=
 cond (a0.Kind != a1.Kind) (some false) (cond (a0.Kind == 0) (some true) (cond (a0.Kind == 1) (((V7 a0.Words).bind fun y14=>(V7 a1.Words).bind fun y15=>(Xw y14 y15).bind fun y16=>cond y16 ((Gi a0.Kids).bind fun y17=>(Gi a1.Kids).bind fun y18=>(Zy y17 y18).bind fun y19=>some (cond y16 y19 false)) (some false)).bind fun (z7:Bool)=>some z7) (((Xw a0.Words a1.Words).bind fun y26=>cond y26 ((Zy a0.Kids a1.Kids).bind fun y27=>some (cond y26 y27 false)) (some false)).bind fun (z23:Bool)=>some z23)))
noncomputable def Yl (Kt:(Za→Za→Option Bool)) (a0:(List Za)) (a1:(List Za)) (s0_:Int):Option (Int ⊕ (Unit ⊕ Unit)) :=
 cond (decide (s0_ < (a0.length:Int))) ((Xs a0 s0_).bind fun x2=>(Xs a1 s0_).bind fun x4=>(Kt x2 x4).bind fun y6=>cond (!y6) (some (.inr (.inl ()))) (some (.inl (IntKind.i64.wrap (s0_+1))))) (some (.inr (.inr ())))
noncomputable def Yr (Kt:(Za→Za→Option Bool)) (Zy:((List Za)→(List Za)→Option Bool)) (a0:(List Za)) (a1:(List Za)):Option Bool :=
 cond ((a0.length:Int) != (a1.length:Int)) (some false) ((Z3 (Yl Kt a0 a1) 0).bind fun (z9:(Unit ⊕ Unit))=>match z9 with | .inl z9=>some false | .inr z9=>some true)
noncomputable def Qs:Nat→((Za→Za→Option Bool)×((List Za)→(List Za)→Option Bool))
 | 0=>((fun _ _=>none),(fun _ _=>none))
 | k+1=>(Zhh ((Qs k).1) ((Qs k).2),Yr ((Qs k).1) ((Qs k).2))
noncomputable def Znj (a0:Za) (a1:Za):Option Bool:=lim fun k=>(Qs k).1 a0 a1
noncomputable def Zbh (a0:Za):Option (Zf×Bool) :=
 (Zj7 a0).bind fun y2=>((Zj5 y2).bind fun y10=>cond y10 ((Zj6 y2).bind fun y11=>(Znj y11 a0).bind fun y12=>some (cond (!y10) true (!y12))) (some true)).bind fun (z6:Bool)=>cond z6 (some ((⟨0,⟨0,[],[]⟩,⟨0,[],[]⟩,[],[],0,[]⟩:Zf),false)) (some (y2,true))
noncomputable def Zev (a0:(List Int)):Option (Zf×Int) :=
 (Zam).bind fun y3=>(Zes a0 y3).bind fun y4=>cond (y4.2 != 0) (some ((⟨0,⟨0,[],[]⟩,⟨0,[],[]⟩,[],[],0,[]⟩:Zf),y4.2)) ((Zbh y4.1).bind fun y6=>cond (!y6.2) (some ((⟨0,⟨0,[],[]⟩,⟨0,[],[]⟩,[],[],0,[]⟩:Zf),12)) (some (y6.1,0)))
noncomputable def Ut (a0:(List Int)) (a1:(List Int)) (s0_:Int):Option (Int ⊕ (Unit ⊕ Unit)) :=
 cond (decide (s0_ < (a0.length:Int))) ((Xs a0 s0_).bind fun x3=>(Xs a1 s0_).bind fun x4=>cond (x3 != x4) (some (.inr (.inl ()))) (some (.inl (IntKind.i64.wrap (s0_+1))))) (some (.inr (.inr ())))
noncomputable def J3 (a0:(List Int)) (a1:(List Int)):Option Bool :=
 cond ((a0.length:Int) != (a1.length:Int)) (some false) ((Z3 (Ut a0 a1) 0).bind fun (z7:(Unit ⊕ Unit))=>match z7 with | .inl z7=>some false | .inr z7=>some true)
noncomputable def V4 :Option Bool :=
 (Uy (⟨0,⟨0,[],[]⟩,⟨0,[],[]⟩,[],[],0,[]⟩:Zf) 1).bind fun y2=>(Uy (⟨2,⟨0,[],[]⟩,⟨0,[],[]⟩,[],[],0,[]⟩:Zf) 2).bind fun y4=>(Zev ([4294967296,2]:List Int)).bind fun y6=>(cond y2.2 (cond y4.2 ((J3 y2.1 ([0]:List Int)).bind fun y12=>cond y12 ((J3 y4.1 ([4294967296,2]:List Int)).bind fun y13=>some (cond (cond (cond (cond (cond y2.2 y4.2 false) y12 false) y13 false) (y6.2 == 0) false) (y6.1.Kind == 2) false)) (some false)) (some false)) (some false)).bind fun (z9:Bool)=>some z9
noncomputable def Y7 (a0:Za) (a1:Int):Option Int :=
 cond (decide (a1 < (a0.Words.length:Int))) ((Xs a0.Words a1).bind fun x2=>some x2) (some 0)
noncomputable def Xl (a0:Za) (a1:Int):Option Za :=
 cond (decide (a1 < (a0.Kids.length:Int))) ((Xs a0.Kids a1).bind fun x2=>some x2) (some (⟨0,[],[]⟩:Za))
noncomputable def Kb (y2:Int) (y3:Za) (s0_:(Int×(List Zx))):Option ((Int×(List Zx)) ⊕ (List Zx)) :=
 cond (cond (decide (s0_.1 < (y3.Kids.length:Int))) ((IntKind.i64.wrap (Int.tmod y2 256)) == 2) false) ((Xs y3.Kids s0_.1).bind fun x8=>(Y7 x8 0).bind fun y9=>(Y7 x8 0).bind fun y10=>(Y7 x8 1).bind fun y11=>(Y7 x8 2).bind fun y12=>(Zf9 32 s0_.2 ([(⟨(IntKind.i64.wrap (Int.tmod y9 4294967296)),(IntKind.u8.wrap (Int.tmod (IntKind.u64.wrap (Int.tdiv y10 4294967296)) 256)),y11,y12⟩:Zx)]:List Zx)).bind fun l13=>some (.inl ((IntKind.i64.wrap (s0_.1+1)),l13))) (some (.inr s0_.2))
noncomputable def Kc (Qe:(Za→Option Zf)) (y2:Int) (y4:Za) (s1_:(Int×(List Zl))):Option ((Int×(List Zl)) ⊕ (List Zl)) :=
 cond (cond (decide (s1_.1 < (y4.Kids.length:Int))) ((IntKind.i64.wrap (Int.tmod y2 256)) == 2) false) ((Xs y4.Kids s1_.1).bind fun x17=>(Y7 x17 0).bind fun y18=>(Xl x17 0).bind fun y19=>(Qe y19).bind fun y20=>(Zf9 208 s1_.2 ([(⟨(IntKind.i64.wrap (Int.tmod y18 4294967296)),y20⟩:Zl)]:List Zl)).bind fun l21=>some (.inl ((IntKind.i64.wrap (s1_.1+1)),l21))) (some (.inr s1_.2))
noncomputable def Ke (Qe:(Za→Option Zf)) (y2:Int) (y3:Za) (s2_:(Int×(List Zt))):Option ((Int×(List Zt)) ⊕ (List Zt)) :=
 cond (cond (decide (s2_.1 < (y3.Kids.length:Int))) ((IntKind.i64.wrap (Int.tmod y2 256)) == 3) false) ((Xs y3.Kids s2_.1).bind fun x25=>(Y7 x25 0).bind fun y28=>(Y7 x25 0).bind fun y29=>(cond ((IntKind.i64.wrap (Int.tmod y28 256)) == 3) ((Xl x25 0).bind fun y31=>(Qe y31).bind fun y32=>some ((IntKind.i64.wrap (Int.tmod (IntKind.u64.wrap (Int.tdiv y29 256)) 1099511627776)),([]:(List Za)),y32.Kind,y32.Old.Kind,y32.Old.Words,y32.Old.Kids,y32.New.Kind,y32.New.Words,y32.New.Kids,y32.Words,y32.Kids,y32.List_,y32.Ops)) (cond (cond ((IntKind.i64.wrap (Int.tmod y28 256)) == 1) true ((IntKind.i64.wrap (Int.tmod y28 256)) == 2)) ((Xl x25 0).bind fun y33=>some ((IntKind.i64.wrap (Int.tmod (IntKind.u64.wrap (Int.tdiv y29 256)) 1099511627776)),y33.Kids,0,0,([]:(List Int)),([]:(List Za)),0,([]:(List Int)),([]:(List Za)),([]:(List Zx)),([]:(List Zl)),0,([]:(List Zt)))) (some ((IntKind.i64.wrap (Int.tmod (IntKind.u64.wrap (Int.tdiv y29 256)) 1099511627776)),([]:(List Za)),0,0,([]:(List Int)),([]:(List Za)),0,([]:(List Int)),([]:(List Za)),([]:(List Zx)),([]:(List Zl)),0,([]:(List Zt)))))).bind fun (z30:(Int×(List Za)×Int×Int×(List Int)×(List Za)×Int×(List Int)×(List Za)×(List Zx)×(List Zl)×Int×(List Zt)))=>(Zf9 240 s2_.2 ([(⟨(IntKind.i64.wrap (Int.tmod y28 256)),z30.1,z30.2.1,⟨z30.2.2.1,⟨z30.2.2.2.1,z30.2.2.2.2.1,z30.2.2.2.2.2.1⟩,⟨z30.2.2.2.2.2.2.1,z30.2.2.2.2.2.2.2.1,z30.2.2.2.2.2.2.2.2.1⟩,z30.2.2.2.2.2.2.2.2.2.1,z30.2.2.2.2.2.2.2.2.2.2.1,z30.2.2.2.2.2.2.2.2.2.2.2.1,z30.2.2.2.2.2.2.2.2.2.2.2.2⟩⟩:Zt)]:List Zt)).bind fun l36=>some (.inl ((IntKind.i64.wrap (s2_.1+1)),l36))) (some (.inr s2_.2))
noncomputable def Zac (Qe:(Za→Option Zf)) (a0:Za):Option Zf :=
 cond (a0.Kind != 1) (some (⟨0,⟨0,[],[]⟩,⟨0,[],[]⟩,[],[],0,[]⟩:Zf)) ((Y7 a0 0).bind fun y2=>(Xl a0 0).bind fun y3=>(Xl a0 1).bind fun y4=>(cond ((IntKind.i64.wrap (Int.tmod y2 256)) == 1) (some (y3.Kind,y3.Words,y3.Kids,y4.Kind,y4.Words,y4.Kids,(IntKind.i64.wrap (Int.tmod (IntKind.u64.wrap (Int.tdiv y2 256)) 256)))) (some (0,([]:(List Int)),([]:(List Za)),0,([]:(List Int)),([]:(List Za)),(IntKind.i64.wrap (Int.tmod (IntKind.u64.wrap (Int.tdiv y2 256)) 256))))).bind fun (z5:(Int×(List Int)×(List Za)×Int×(List Int)×(List Za)×Int))=>(Z3 (Kb y2 y3) (0,([]:List Zx))).bind fun (z15:(List Zx))=>(Z3 (Kc Qe y2 y4) (0,([]:List Zl))).bind fun (z23:(List Zl))=>(Z3 (Ke Qe y2 y3) (0,([]:List Zt))).bind fun (z38:(List Zt))=>some (⟨(IntKind.i64.wrap (Int.tmod y2 256)),⟨z5.1,z5.2.1,z5.2.2.1⟩,⟨z5.2.2.2.1,z5.2.2.2.2.1,z5.2.2.2.2.2.1⟩,z15,z23,z5.2.2.2.2.2.2,z38⟩:Zf))
noncomputable def Jl:Nat→(Za→Option Zf)
 | 0=>(fun _=>none)
 | k+1=>Zac ((Jl k))
noncomputable def Zgu (a0:Za):Option Zf:=lim fun k=>(Jl k) a0
noncomputable def J4 (a0:Za):Option Bool :=
 some (cond (a0.Kind == 0) ((IntKind.i64.wrap ((a0.Words.length:Int)+(a0.Kids.length:Int))) == 0) false)
noncomputable def V1 (s0_:(Int×Int×(Arr Int 8))):Option ((Int×Int×(Arr Int 8)) ⊕ (Arr Int 8)) :=
 cond (decide (s0_.2.1 < 8)) ((Xs s0_.2.2.1 s0_.2.1).bind fun x15=>some (.inl ((IntKind.u64.wrap (Int.tdiv s0_.1 256)),(IntKind.i64.wrap (s0_.2.1+1)),(Arr.put s0_.2.2 s0_.2.1 (IntKind.u8.wrap (Int.tmod s0_.1 256)))))) (some (.inr s0_.2.2))
noncomputable def V5 (a0:Int):Option (Arr Int 8) :=
 ((some (⟨[0,0,0,0,0,0,0,0],rfl⟩:(Arr Int 8)))).bind fun y3=>((some (⟨[0,0,0,0,0,0,0,0],rfl⟩:(Arr Int 8)))).bind fun y9=>(Z3 (V1) (a0,0,y9)).bind fun (z18:(Arr Int 8))=>some z18
noncomputable def Kf (a1:Int) (s0_:(Int×Int)):Option ((Int×Int) ⊕ Int) :=
 cond (decide (s0_.2 < a1)) (some (.inl ((IntKind.u8.wrap (Int.tdiv s0_.1 2)),(IntKind.i64.wrap (s0_.2+1))))) (some (.inr s0_.1))
noncomputable def Zaj (a0:Int) (a1:Int):Option Bool :=
 (Z3 (Kf a1) (a0,0)).bind fun (z2:Int)=>some ((Int.tmod z2 2) == 1)
noncomputable def Zak (a0:(List Int)) (a1:Int) (s0_:(Int×Int)):Option ((Int×Int) ⊕ Int) :=
 cond (decide (0≤s0_.2)) ((Xs a0 (IntKind.i64.wrap (a1+s0_.2))).bind fun x1=>some (.inl ((IntKind.u64.wrap ((IntKind.u64.wrap (s0_.1 * 256))+(IntKind.u64.wrap x1))),(IntKind.i64.wrap (s0_.2 - 1))))) (some (.inr s0_.1))
noncomputable def Zgi (a0:(List Int)) (a1:Int):Option Int :=
 (Z3 (Zak a0 a1) (0,7)).bind fun (z3:Int)=>some z3
noncomputable def Gr (a2:Int) (y9:(Arr Int 8)) (s0_:(Int×(Arr Int 8))):Option ((Int×(Arr Int 8)) ⊕ (Arr Int 8)) :=
 cond (decide (s0_.1 < 8)) (((Zaj a2 s0_.1).bind fun y17=>cond y17 ((Xs y9.1 s0_.1).bind fun x18=>(Xs s0_.2.1 s0_.1).bind fun x19=>some (Arr.put s0_.2 s0_.1 x18)) (some s0_.2)).bind fun (z15:(Arr Int 8))=>some (.inl ((IntKind.i64.wrap (s0_.1+1)),z15))) (some (.inr s0_.2))
noncomputable def Zcj (a0:Int) (a1:Int) (a2:Int):Option Int :=
 (V5 a0).bind fun y8=>(V5 a1).bind fun y9=>((some (⟨[0,0,0,0,0,0,0,0],rfl⟩:(Arr Int 8)))).bind fun y10=>(Z3 (Gr a2 y9) (0,y8)).bind fun (z23:(Arr Int 8))=>(Zgi z23.1 0).bind fun y29=>some y29
noncomputable def Vk (a0:Int) (a1:Int):Option Bool :=
 (Zcj a0 0 a1).bind fun y2=>some (y2 == 0)
noncomputable def U4 (a0:Zf):Option Bool :=
 (cond (a0.Kind == 0) ((J4 a0.Old).bind fun y6=>cond y6 ((J4 a0.New).bind fun y7=>some (cond (cond (cond (cond (a0.Kind == 0) y6 false) y7 false) ((IntKind.i64.wrap ((IntKind.i64.wrap ((a0.Words.length:Int)+(a0.Kids.length:Int)))+(a0.Ops.length:Int))) == 0) false) (a0.List_ == 0) false)) (some false)) (some false)).bind fun (z3:Bool)=>some z3
noncomputable def K3 (a0:Zf) (s0_:(Int×Int×Int)):Option ((Int×Int×Int) ⊕ (Int×Int)) :=
 cond (decide (s0_.2.2 < (a0.Ops.length:Int))) (((Xs a0.Ops s0_.2.2).bind fun x3=>(cond (x3.Kind == 3) (some 1) (some (IntKind.i64.wrap (x3.N+(x3.L.length:Int))))).bind fun (z4:Int)=>(cond (x3.Kind != 2) (some (IntKind.i64.wrap (s0_.1+z4))) (some s0_.1)).bind fun (z6:Int)=>(cond (x3.Kind != 1) (some (IntKind.i64.wrap (s0_.2.1+z4))) (some s0_.2.1)).bind fun (z8:Int)=>(cond (decide (1048576 < z6)) (some 1048576) (some z6)).bind fun (z10:Int)=>cond (decide (1048576 < z8)) (some (z10,1048576)) (some (z10,z8))).bind fun (z1:(Int×Int))=>some (.inl (z1.1,z1.2,(IntKind.i64.wrap (s0_.2.2+1))))) (some (.inr (s0_.1,s0_.2.1)))
noncomputable def Uv (a0:Zf):Option (Int×Int) :=
 (Z3 (K3 a0) (0,0,0)).bind fun (z14:(Int×Int))=>some (z14.1,z14.2)
noncomputable def J9 (a0:Zf) (s0_:(Int×Int)):Option ((Int×Int) ⊕ (Unit ⊕ Unit)) :=
 cond (decide (s0_.2 < (a0.Words.length:Int))) ((Xs a0.Words s0_.2).bind fun x19=>(cond (decide (x19.At≤s0_.1)) (some true) (cond (decide (65534 < x19.At)) (some true) (cond (x19.Mask == 0) (some true) ((Vk x19.Old x19.Mask).bind fun y25=>cond y25 ((Vk x19.New x19.Mask).bind fun y26=>some (cond (cond (cond (cond (decide (x19.At≤s0_.1)) true (decide (65534 < x19.At))) true (x19.Mask == 0)) true (!y25)) true (!y26))) (some true))))).bind fun (z22:Bool)=>cond z22 (some (.inr (.inl ()))) (some (.inl (x19.At,(IntKind.i64.wrap (s0_.2+1)))))) (some (.inr (.inr ())))
noncomputable def Ka (Xn:(Zf→Int→Option Bool)) (a0:Zf) (a1:Int) (s1_:(Int×Int)):Option ((Int×Int) ⊕ (Unit ⊕ Unit)) :=
 cond (decide (s1_.2 < (a0.Kids.length:Int))) ((Xs a0.Kids s1_.2).bind fun x35=>(cond (decide (x35.At≤s1_.1)) (some true) (cond (decide (65534 < x35.At)) (some true) (cond (x35.E.Kind == 0) (some true) ((Xn x35.E (IntKind.i64.wrap (a1 - 1))).bind fun y39=>some (cond (cond (cond (decide (x35.At≤s1_.1)) true (decide (65534 < x35.At))) true (x35.E.Kind == 0)) true (!y39)))))).bind fun (z37:Bool)=>cond z37 (some (.inr (.inl ()))) (some (.inl (x35.At,(IntKind.i64.wrap (s1_.2+1)))))) (some (.inr (.inr ())))
noncomputable def Jm (Qx:(Int→Zt→Int→Option Bool)) (a0:Zf) (a1:Int) (s2_:Int):Option (Int ⊕ (Unit ⊕ Unit)) :=
 cond (decide (s2_ < (a0.Ops.length:Int))) ((Xs a0.Ops s2_).bind fun x48=>(Qx a0.List_ x48 (IntKind.i64.wrap (a1 - 1))).bind fun y49=>cond (!y49) (some (.inr (.inl ()))) (some (.inl (IntKind.i64.wrap (s2_+1))))) (some (.inr (.inr ())))
noncomputable def Zaa (Xn:(Zf→Int→Option Bool)) (Qx:(Int→Zt→Int→Option Bool)) (a0:Zf) (a1:Int):Option Bool :=
 cond (cond (cond (a1 == 0) true (decide (a0.Kind < 0))) true (decide (3 < a0.Kind))) (some false) ((cond (a0.Kind != 1) ((J4 a0.Old).bind fun y6=>cond y6 ((J4 a0.New).bind fun y7=>some (cond (cond (cond (a0.Kind != 1) (!(cond y6 y7 false)) false) true (cond (a0.Kind != 2) (decide (0 < (IntKind.i64.wrap ((a0.Words.length:Int)+(a0.Kids.length:Int))))) false)) true (cond (a0.Kind != 3) (cond (a0.List_ != 0) true (decide (0 < (a0.Ops.length:Int)))) false))) (some true)) (some (cond (cond (a0.Kind != 2) (decide (0 < (IntKind.i64.wrap ((a0.Words.length:Int)+(a0.Kids.length:Int))))) false) true (cond (a0.Kind != 3) (cond (a0.List_ != 0) true (decide (0 < (a0.Ops.length:Int)))) false)))).bind fun (z3:Bool)=>cond z3 (some false) (cond (a0.Kind == 1) (((Kz a0.Old 64).bind fun y15=>cond y15 ((Kz a0.New 64).bind fun y16=>some (cond (cond (cond y15 y16 false) (a0.Old.Kind != 10) false) (a0.New.Kind != 10) false)) (some false)).bind fun (z12:Bool)=>some z12) ((Z3 (J9 a0) ((-1),0)).bind fun (z33:(Unit ⊕ Unit))=>match z33 with | .inl z33=>some false | .inr z33=>(Z3 (Ka Xn a0 a1) ((-1),0)).bind fun (z45:(Unit ⊕ Unit))=>match z45 with | .inl z45=>some false | .inr z45=>cond (cond (a0.Kind == 3) (cond (decide (a0.List_ < 2)) true (decide (9 < a0.List_))) false) (some false) ((Z3 (Jm Qx a0 a1) 0).bind fun (z52:(Unit ⊕ Unit))=>match z52 with | .inl z52=>some false | .inr z52=>(Uv a0).bind fun y54=>some (cond (decide (y54.1 < 1048576)) (decide (y54.2 < 1048576)) false)))))
noncomputable def Zab (a0:Int) (a1:Zt) (s0_:Int):Option (Int ⊕ (Unit ⊕ Unit)) :=
 cond (decide (s0_ < (a1.L.length:Int))) ((Zjw a1.L s0_ (IntKind.i64.wrap (s0_+1))).bind fun l10=>(Kz (⟨a0,[],l10⟩:Za) 64).bind fun y11=>cond (!y11) (some (.inr (.inl ()))) (some (.inl (IntKind.i64.wrap (s0_+1))))) (some (.inr (.inr ())))
noncomputable def Zdf (Xn:(Zf→Int→Option Bool)) (Qx:(Int→Zt→Int→Option Bool)) (a0:Int) (a1:Zt) (a2:Int):Option Bool :=
 cond (a1.Kind == 0) ((cond (decide (1≤a1.N)) (cond (decide (a1.N≤1048576)) (cond ((a1.L.length:Int) == 0) ((U4 a1.E).bind fun y4=>some (cond (cond (cond (decide (1≤a1.N)) (decide (a1.N≤1048576)) false) ((a1.L.length:Int) == 0) false) y4 false)) (some false)) (some false)) (some false)).bind fun (z2:Bool)=>some z2) (cond (cond (cond (a1.N != 0) true (decide (a1.Kind < 0))) true (decide (3 < a1.Kind))) (some false) (cond (decide (a1.Kind < 3)) ((Z3 (Zab a0 a1) 0).bind fun (z14:(Unit ⊕ Unit))=>match z14 with | .inl z14=>some false | .inr z14=>(cond (decide (0 < (a1.L.length:Int))) ((U4 a1.E).bind fun y18=>some (cond (decide (0 < (a1.L.length:Int))) y18 false)) (some false)).bind fun (z16:Bool)=>some z16) ((cond (decide (0 < (a1.L.length:Int))) (some true) (cond (a1.E.Kind == 0) (some true) (cond (decide (a0≤7)) (some true) ((Xn a1.E a2).bind fun y23=>some (cond (cond (cond (decide (0 < (a1.L.length:Int))) true (a1.E.Kind == 0)) true (decide (a0≤7))) true (!y23)))))).bind fun (z21:Bool)=>cond z21 (some false) (some (cond (cond (a0 == 8) true (a1.E.Kind == 2)) true (cond (cond (a1.E.Kind == 1) (a1.E.Old.Kind == 1) false) (a1.E.New.Kind == 1) false))))))
noncomputable def Y2:Nat→((Zf→Int→Option Bool)×(Int→Zt→Int→Option Bool))
 | 0=>((fun _ _=>none),(fun _ _ _=>none))
 | k+1=>(Zaa ((Y2 k).1) ((Y2 k).2),Zdf ((Y2 k).1) ((Y2 k).2))
noncomputable def Zc4 (a0:Zf) (a1:Int):Option Bool:=lim fun k=>(Y2 k).1 a0 a1
noncomputable def V6 (a0:(List Za)):Option Za :=
 cond ((a0.length:Int) == 0) (some (⟨0,[],[]⟩:Za)) (some (⟨9,[],a0⟩:Za))
noncomputable def Um (a0:Zf) (s0_:(Int×(List Int)×(List Za))):Option ((Int×(List Int)×(List Za)) ⊕ ((List Int)×(List Za))) :=
 cond (decide (s0_.1 < (a0.Words.length:Int))) ((Xs a0.Words s0_.1).bind fun x3=>(Zf9 56 s0_.2.2 ([(⟨1,([(IntKind.u64.wrap ((IntKind.u64.wrap x3.At)+(IntKind.u64.wrap (4294967296 * (IntKind.u64.wrap x3.Mask))))),x3.Old,x3.New]:List Int),[]⟩:Za)]:List Za)).bind fun l4=>some (.inl ((IntKind.i64.wrap (s0_.1+1)),s0_.2.1,l4))) (some (.inr (s0_.2.1,s0_.2.2)))
noncomputable def Un (Qp:(Zf→Option Za)) (a0:Zf) (s1_:(Int×(List Za))):Option ((Int×(List Za)) ⊕ (List Za)) :=
 cond (decide (s1_.1 < (a0.Kids.length:Int))) ((Xs a0.Kids s1_.1).bind fun x55=>(Qp x55.E).bind fun y187=>(Zf9 56 s1_.2 ([(⟨1,([(IntKind.u64.wrap x55.At)]:List Int),([y187]:List Za)⟩:Za)]:List Za)).bind fun l235=>some (.inl ((IntKind.i64.wrap (s1_.1+1)),l235))) (some (.inr s1_.2))
noncomputable def Uo (Qp:(Zf→Option Za)) (a0:Zf) (s2_:(Int×(List Int)×(List Za))):Option ((Int×(List Int)×(List Za)) ⊕ ((List Int)×(List Za))) :=
 cond (decide (s2_.1 < (a0.Ops.length:Int))) ((Xs a0.Ops s2_.1).bind fun x265=>(cond (x265.Kind == 3) ((Qp x265.E).bind fun y267=>some (([(IntKind.u64.wrap (IntKind.i64.wrap (x265.Kind+(IntKind.i64.wrap (256 * x265.N)))))]:List Int),([y267]:List Za))) (cond (decide (0 < x265.Kind)) (some (([(IntKind.u64.wrap (IntKind.i64.wrap (x265.Kind+(IntKind.i64.wrap (256 * x265.N)))))]:List Int),([(⟨a0.List_,[],x265.L⟩:Za)]:List Za))) (some (([(IntKind.u64.wrap (IntKind.i64.wrap (x265.Kind+(IntKind.i64.wrap (256 * x265.N)))))]:List Int),([]:List Za))))).bind fun (z266:((List Int)×(List Za)))=>(Zf9 56 s2_.2.2 ([(⟨1,z266.1,z266.2⟩:Za)]:List Za)).bind fun l270=>some (.inl ((IntKind.i64.wrap (s2_.1+1)),s2_.2.1,l270))) (some (.inr (s2_.2.1,s2_.2.2)))
noncomputable def Za8 (Qp:(Zf→Option Za)) (a0:Zf):Option Za :=
 (cond (a0.Kind == 0) (some (.inr ())) (cond (a0.Kind == 1) (some (.inl (([(IntKind.u64.wrap (IntKind.i64.wrap (a0.Kind+(IntKind.i64.wrap (256 * a0.List_)))))]:List Int),([a0.Old,a0.New]:List Za)))) (cond (a0.Kind == 2) ((Z3 (Um a0) (0,([(IntKind.u64.wrap (IntKind.i64.wrap (a0.Kind+(IntKind.i64.wrap (256 * a0.List_)))))]:List Int),([]:List Za))).bind fun (z6:((List Int)×(List Za)))=>(Z3 (Un Qp a0) (0,([]:List Za))).bind fun (z260:(List Za))=>(V6 z6.2).bind fun y262=>(V6 z260).bind fun y263=>some (.inl (z6.1,([y262,y263]:List Za)))) ((Z3 (Uo Qp a0) (0,([(IntKind.u64.wrap (IntKind.i64.wrap (a0.Kind+(IntKind.i64.wrap (256 * a0.List_)))))]:List Int),([]:List Za))).bind fun (z272:((List Int)×(List Za)))=>(V6 z272.2).bind fun y273=>some (.inl (z272.1,([y273]:List Za))))))).bind fun (z1:(((List Int)×(List Za)) ⊕ Unit))=>match z1 with | .inl z1=>some (⟨1,z1.1,z1.2⟩:Za) | .inr z1=>some (⟨0,[],[]⟩:Za)
noncomputable def Ky:Nat→(Zf→Option Za)
 | 0=>(fun _=>none)
 | k+1=>Za8 ((Ky k))
noncomputable def Zhw (a0:Zf):Option Za:=lim fun k=>(Ky k) a0
noncomputable def Uu (a0:(List Int)) (s0_:Int):Option (Int ⊕ Int) :=
 (cond (decide (0 < s0_)) ((Xs a0 (IntKind.i64.wrap (s0_ - 1))).bind fun x4=>some (cond (decide (0 < s0_)) (x4 == 0) false)) (some false)).bind fun (z2:Bool)=>cond z2 (some (.inl (IntKind.i64.wrap (s0_ - 1)))) (some (.inr s0_))
noncomputable def Zbc (a0:(List Int)):Option (List Int) :=
 (Z3 (Uu a0) (a0.length:Int)).bind fun (z7:Int)=>(Zjw a0 0 z7).bind fun l10=>(Zf9 8 ([]:List Int) l10).bind fun l11=>some l11
noncomputable def Jp (J7:(Za→Option Za)) (a0:Za) (s0_:(Int×Int×(List Za))):Option ((Int×Int×(List Za)) ⊕ (Int×(List Za))) :=
 cond (decide (s0_.2.1 < (a0.Kids.length:Int))) (((Xs a0.Kids s0_.2.1).bind fun x4=>(J7 x4).bind fun y5=>(Zf9 56 s0_.2.2 ([y5]:List Za)).bind fun l7=>cond (y5.Kind != 0) (some ((IntKind.i64.wrap (s0_.2.1+1)),l7)) (some (s0_.1,l7))).bind fun (z1:(Int×(List Za)))=>some (.inl (z1.1,(IntKind.i64.wrap (s0_.2.1+1)),z1.2))) (some (.inr (s0_.1,s0_.2.2)))
noncomputable def Za5 (J7:(Za→Option Za)) (a0:Za):Option Za :=
 cond (a0.Kind == 0) (some (⟨0,[],[]⟩:Za)) ((Z3 (Jp J7 a0) (0,0,([]:List Za))).bind fun (z10:(Int×(List Za)))=>cond (a0.Kind == 1) ((Zbc a0.Words).bind fun y14=>(Zjw z10.2 0 z10.1).bind fun l15=>some (⟨1,y14,l15⟩:Za)) ((Zf9 8 ([]:List Int) a0.Words).bind fun l17=>some (⟨a0.Kind,l17,z10.2⟩:Za)))
noncomputable def Qr:Nat→(Za→Option Za)
 | 0=>(fun _=>none)
 | k+1=>Za5 ((Qr k))
noncomputable def Zei (a0:Za):Option Za:=lim fun k=>(Qr k) a0
noncomputable def Ui (J8:(Za→Za→Option Bool)) (a0:Za) (a1:Za) (s0_:Int):Option (Int ⊕ (Unit ⊕ Unit)) :=
 cond (decide (s0_ < (a0.Kids.length:Int))) ((Xs a0.Kids s0_).bind fun x9=>(Xs a1.Kids s0_).bind fun x10=>(J8 x9 x10).bind fun y11=>cond (!y11) (some (.inr (.inl ()))) (some (.inl (IntKind.i64.wrap (s0_+1))))) (some (.inr (.inr ())))
noncomputable def Za6 (J8:(Za→Za→Option Bool)) (a0:Za) (a1:Za):Option Bool :=
 (cond (a0.Kind != a1.Kind) (some true) ((J3 a0.Words a1.Words).bind fun y4=>some (cond (cond (a0.Kind != a1.Kind) true (!y4)) true ((a0.Kids.length:Int) != (a1.Kids.length:Int))))).bind fun (z2:Bool)=>cond z2 (some false) ((Z3 (Ui J8 a0 a1) 0).bind fun (z14:(Unit ⊕ Unit))=>match z14 with | .inl z14=>some false | .inr z14=>some true)
noncomputable def Kw:Nat→(Za→Za→Option Bool)
 | 0=>(fun _ _=>none)
 | k+1=>Za6 ((Kw k))
noncomputable def U3 (a0:Za) (a1:Za):Option Bool:=lim fun k=>(Kw k) a0 a1
noncomputable def Zal (a0:Za) (a1:Za):Option Bool :=
 (Zei a0).bind fun y4=>(Zei a1).bind fun y5=>(U3 y4 y5).bind fun y6=>some y6
noncomputable def Zbe (a0:Za):Option (Zf×Bool) :=
 (Zgu a0).bind fun y2=>((Zc4 y2 64).bind fun y10=>cond y10 ((Zhw y2).bind fun y11=>(Zal y11 a0).bind fun y12=>some (cond (!y10) true (!y12))) (some true)).bind fun (z6:Bool)=>cond z6 (some ((⟨0,⟨0,[],[]⟩,⟨0,[],[]⟩,[],[],0,[]⟩:Zf),false)) (some (y2,true))
noncomputable def Vw (a0:(List Za)) (a1:(List Za)) (s0_:Int):Option (Int ⊕ (Unit ⊕ Unit)) :=
 cond (decide (s0_ < (a0.length:Int))) ((Xs a0 s0_).bind fun x4=>(Xs a1 s0_).bind fun x5=>(U3 x4 x5).bind fun y6=>cond (!y6) (some (.inr (.inl ()))) (some (.inl (IntKind.i64.wrap (s0_+1))))) (some (.inr (.inr ())))
noncomputable def Ve (a0:(List Za)) (a1:(List Za)):Option Bool :=
 cond ((a0.length:Int) != (a1.length:Int)) (some false) ((Z3 (Vw a0 a1) 0).bind fun (z9:(Unit ⊕ Unit))=>match z9 with | .inl z9=>some false | .inr z9=>some true)
noncomputable def Uj (a0:Zf) (a1:Zf) (s0_:Int):Option (Int ⊕ (Unit ⊕ Unit)) :=
 cond (decide (s0_ < (a0.Words.length:Int))) ((Xs a0.Words s0_).bind fun x13=>(Xs a1.Words s0_).bind fun x14=>cond (!((x13.At == x14.At) && ((x13.Mask == x14.Mask) && ((x13.Old == x14.Old) && (x13.New == x14.New))))) (some (.inr (.inl ()))) (some (.inl (IntKind.i64.wrap (s0_+1))))) (some (.inr (.inr ())))
noncomputable def Uk (Qo:(Zf→Zf→Option Bool)) (a0:Zf) (a1:Zf) (s1_:Int):Option (Int ⊕ (Unit ⊕ Unit)) :=
 cond (decide (s1_ < (a0.Kids.length:Int))) (((Xs a0.Kids s1_).bind fun x37=>(Xs a1.Kids s1_).bind fun x39=>cond (x37.At != x39.At) (some true) ((Qo x37.E x39.E).bind fun y45=>some (cond (x37.At != x39.At) true (!y45)))).bind fun (z27:Bool)=>cond z27 (some (.inr (.inl ()))) (some (.inl (IntKind.i64.wrap (s1_+1))))) (some (.inr (.inr ())))
noncomputable def Ul (Qo:(Zf→Zf→Option Bool)) (a0:Zf) (a1:Zf) (s2_:Int):Option (Int ⊕ (Unit ⊕ Unit)) :=
 cond (decide (s2_ < (a0.Ops.length:Int))) ((Xs a0.Ops s2_).bind fun x50=>(Xs a1.Ops s2_).bind fun x51=>(cond (x50.Kind != x51.Kind) (some true) (cond (x50.N != x51.N) (some true) ((Ve x50.L x51.L).bind fun y57=>cond y57 ((Qo x50.E x51.E).bind fun y58=>some (cond (cond (cond (x50.Kind != x51.Kind) true (x50.N != x51.N)) true (!y57)) true (!y58))) (some true)))).bind fun (z54:Bool)=>cond z54 (some (.inr (.inl ()))) (some (.inl (IntKind.i64.wrap (s2_+1))))) (some (.inr (.inr ())))
noncomputable def Za7 (Qo:(Zf→Zf→Option Bool)) (a0:Zf) (a1:Zf):Option Bool :=
 (cond (a0.Kind != a1.Kind) (some true) (cond (a0.List_ != a1.List_) (some true) ((U3 a0.Old a1.Old).bind fun y6=>cond y6 ((U3 a0.New a1.New).bind fun y7=>some (cond (cond (cond (cond (cond (cond (a0.Kind != a1.Kind) true (a0.List_ != a1.List_)) true (!y6)) true (!y7)) true ((a0.Words.length:Int) != (a1.Words.length:Int))) true ((a0.Kids.length:Int) != (a1.Kids.length:Int))) true ((a0.Ops.length:Int) != (a1.Ops.length:Int)))) (some true)))).bind fun (z3:Bool)=>cond z3 (some false) ((Z3 (Uj a0 a1) 0).bind fun (z17:(Unit ⊕ Unit))=>match z17 with | .inl z17=>some false | .inr z17=>(Z3 (Uk Qo a0 a1) 0).bind fun (z49:(Unit ⊕ Unit))=>match z49 with | .inl z49=>some false | .inr z49=>(Z3 (Ul Qo a0 a1) 0).bind fun (z64:(Unit ⊕ Unit))=>match z64 with | .inl z64=>some false | .inr z64=>some true)
noncomputable def Kx:Nat→(Zf→Zf→Option Bool)
 | 0=>(fun _ _=>none)
 | k+1=>Za7 ((Kx k))
noncomputable def Zbd (a0:Zf) (a1:Zf):Option Bool:=lim fun k=>(Kx k) a0 a1
noncomputable def U1 (a0:Za):Option Bool :=
 ((Zck a0).bind fun y6=>cond y6 ((Kz a0 64).bind fun y7=>some (cond (!y6) true (!y7))) (some true)).bind fun (z3:Bool)=>cond z3 ((V4).bind fun y10=>some y10) ((Zbh a0).bind fun y12=>(Zbe a0).bind fun y14=>(cond (y12.2 == y14.2) ((Zbd y12.1 y14.1).bind fun y20=>cond y20 ((V4).bind fun y21=>some (cond (cond (y12.2 == y14.2) y20 false) y21 false)) (some false)) (some false)).bind fun (z17:Bool)=>some z17)
end Go.Proofs.YtmlcnhambfkjaaaGreat
