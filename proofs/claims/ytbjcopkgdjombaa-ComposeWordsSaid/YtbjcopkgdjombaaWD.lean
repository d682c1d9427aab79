/- Part WD of this seat's mirrors: functions of the seat's program, and the plain functions that they are; each theorem bears its own conditions. -/
import Derived.Test.YtbjcopkgdjombaaH25
import Derived.Test.YtbjcopkgdjombaaTy
namespace Go.Proofs.Ytbjcopkgdjombaa
open Go.RowKit
set_option linter.unusedVariables false
set_option linter.unusedSimpArgs false
set_option maxRecDepth 100000
set_option maxHeartbeats 4000000
structure Zb where
 Kind:Int
 Words:(List Int)
 Kids:(List Zb)
noncomputable def Q6 (a0:Zb):Option Bool :=
 some (cond (a0.Kind == 0) ((IntKind.i64.wrap ((a0.Words.length:Int)+(a0.Kids.length:Int))) == 0) false)
noncomputable def Zcs (a0:Int):Option Int :=
 cond (a0 == 0) (some 0) (cond (a0 == 1) (some 1) (cond (a0 == 2) (some 8) (cond (a0 == 3) (some 16) (cond (a0 == 4) (some 32) (cond (a0 == 5) (some 64) (some (-1)))))))
noncomputable def Qb (y2:Int) (s0_:(Int×Int)):Option ((Int×Int) ⊕ Int) :=
 cond (decide (s0_.2 < y2)) (some (.inl ((IntKind.u64.wrap (Int.tdiv s0_.1 2)),(IntKind.i64.wrap (s0_.2+1))))) (some (.inr s0_.1))
noncomputable def K3 (a0:Int) (a1:Int):Option Bool :=
 (Zcs a0).bind fun y2=>cond (decide (y2 < 0)) (some false) ((Z8 (Qb y2) (a1,0)).bind fun (z4:Int)=>some (z4 == 0))
noncomputable def Kh (Qt:(Zb→Int→Option Bool)) (a0:Zb) (a1:Int) (s0_:Int):Option (Int ⊕ (Unit ⊕ Unit)) :=
 cond (decide (s0_ < (a0.Kids.length:Int))) ((Xi a0.Kids s0_).bind fun x2=>(Qt x2 (IntKind.i64.wrap (a1 - 1))).bind fun y4=>cond (!y4) (some (.inr (.inl ()))) ((cond ((cond (decide (2≤a0.Kind)) (decide (a0.Kind≤7)) false) != (x2.Kind == 10)) (some true) (cond (a0.Kind == 9) (cond (x2.Kind != 1) (some true) (cond (decide (2≤a0.Kind)) (cond (decide (a0.Kind≤7)) ((Xi x2.Words 0).bind fun x14=>(K3 (IntKind.i64.wrap (a0.Kind - 2)) x14).bind fun y15=>some (cond (cond ((cond (decide (2≤a0.Kind)) (decide (a0.Kind≤7)) false) != (x2.Kind == 10)) true (cond (a0.Kind == 9) (x2.Kind != 1) false)) true (cond (cond (decide (2≤a0.Kind)) (decide (a0.Kind≤7)) false) (!y15) false))) (some (cond (cond ((cond (decide (2≤a0.Kind)) (decide (a0.Kind≤7)) false) != (x2.Kind == 10)) true (cond (a0.Kind == 9) (x2.Kind != 1) false)) true false))) (some (cond (cond ((cond (decide (2≤a0.Kind)) (decide (a0.Kind≤7)) false) != (x2.Kind == 10)) true (cond (a0.Kind == 9) (x2.Kind != 1) false)) true false)))) (cond (decide (2≤a0.Kind)) (cond (decide (a0.Kind≤7)) ((Xi x2.Words 0).bind fun x16=>(K3 (IntKind.i64.wrap (a0.Kind - 2)) x16).bind fun y17=>some (cond (cond ((cond (decide (2≤a0.Kind)) (decide (a0.Kind≤7)) false) != (x2.Kind == 10)) true (cond (a0.Kind == 9) (x2.Kind != 1) false)) true (cond (cond (decide (2≤a0.Kind)) (decide (a0.Kind≤7)) false) (!y17) false))) (some (cond (cond ((cond (decide (2≤a0.Kind)) (decide (a0.Kind≤7)) false) != (x2.Kind == 10)) true (cond (a0.Kind == 9) (x2.Kind != 1) false)) true false))) (some (cond (cond ((cond (decide (2≤a0.Kind)) (decide (a0.Kind≤7)) false) != (x2.Kind == 10)) true (cond (a0.Kind == 9) (x2.Kind != 1) false)) true false))))).bind fun (z9:Bool)=>cond z9 (some (.inr (.inl ()))) (some (.inl (IntKind.i64.wrap (s0_+1)))))) (some (.inr (.inr ())))
noncomputable def Vn (Qt:(Zb→Int→Option Bool)) (a0:Zb) (a1:Int):Option Bool :=
 cond (a0.Kind == 0) (some (cond ((a0.Words.length:Int) == 0) ((a0.Kids.length:Int) == 0) false)) (cond (a0.Kind == 10) (some (cond ((a0.Words.length:Int) == 1) ((a0.Kids.length:Int) == 0) false)) (cond (cond (cond (cond (cond (cond (decide (a0.Kind < 0)) true (decide (10 < a0.Kind))) true (a1 == 0)) true (decide (65536≤(a0.Words.length:Int)))) true (cond (a0.Kind == 1) (decide (65536≤(a0.Kids.length:Int))) false)) true (decide (1048576≤(a0.Kids.length:Int)))) (some false) (cond (cond (decide (1 < a0.Kind)) (decide (0 < (a0.Words.length:Int))) false) (some false) ((Z8 (Kh Qt a0 a1) 0).bind fun (z28:(Unit ⊕ Unit))=>match z28 with | .inl z28=>some false | .inr z28=>some true))))
noncomputable def Q5:Nat→(Zb→Int→Option Bool)
 | 0=>(fun _ _=>none)
 | k+1=>Vn ((Q5 k))
noncomputable def Vv (a0:Zb) (a1:Int):Option Bool:=lim fun k=>(Q5 k) a0 a1
noncomputable def Ki (s0_:(Int×Int×(Arr Int 8))):Option ((Int×Int×(Arr Int 8)) ⊕ (Arr Int 8)) :=
 cond (decide (s0_.2.1 < 8)) ((Xi s0_.2.2.1 s0_.2.1).bind fun x15=>some (.inl ((IntKind.u64.wrap (Int.tdiv s0_.1 256)),(IntKind.i64.wrap (s0_.2.1+1)),(Arr.put s0_.2.2 s0_.2.1 (IntKind.u8.wrap (Int.tmod s0_.1 256)))))) (some (.inr s0_.2.2))
noncomputable def Xz (a0:Int):Option (Arr Int 8) :=
 ((some (⟨[0,0,0,0,0,0,0,0],rfl⟩:(Arr Int 8)))).bind fun y3=>((some (⟨[0,0,0,0,0,0,0,0],rfl⟩:(Arr Int 8)))).bind fun y9=>(Z8 (Ki) (a0,0,y9)).bind fun (z18:(Arr Int 8))=>some z18
noncomputable def Ja (a1:Int) (s0_:(Int×Int)):Option ((Int×Int) ⊕ Int) :=
 cond (decide (s0_.2 < a1)) (some (.inl ((IntKind.u8.wrap (Int.tdiv s0_.1 2)),(IntKind.i64.wrap (s0_.2+1))))) (some (.inr s0_.1))
noncomputable def Ji (a0:Int) (a1:Int):Option Bool :=
 (Z8 (Ja a1) (a0,0)).bind fun (z2:Int)=>some ((Int.tmod z2 2) == 1)
noncomputable def Vu (a0:(List Int)) (a1:Int) (s0_:(Int×Int)):Option ((Int×Int) ⊕ Int) :=
 cond (decide (0≤s0_.2)) ((Xi a0 (IntKind.i64.wrap (a1+s0_.2))).bind fun x1=>some (.inl ((IntKind.u64.wrap ((IntKind.u64.wrap (s0_.1 * 256))+(IntKind.u64.wrap x1))),(IntKind.i64.wrap (s0_.2 - 1))))) (some (.inr s0_.1))
noncomputable def J9 (a0:(List Int)) (a1:Int):Option Int :=
 (Z8 (Vu a0 a1) (0,7)).bind fun (z3:Int)=>some z3
noncomputable def Vf (a2:Int) (y9:(Arr Int 8)) (s0_:(Int×(Arr Int 8))):Option ((Int×(Arr Int 8)) ⊕ (Arr Int 8)) :=
 cond (decide (s0_.1 < 8)) (((Ji a2 s0_.1).bind fun y17=>cond y17 ((Xi y9.1 s0_.1).bind fun x18=>(Xi s0_.2.1 s0_.1).bind fun x19=>some (Arr.put s0_.2 s0_.1 x18)) (some s0_.2)).bind fun (z15:(Arr Int 8))=>some (.inl ((IntKind.i64.wrap (s0_.1+1)),z15))) (some (.inr s0_.2))
noncomputable def Ur (a0:Int) (a1:Int) (a2:Int):Option Int :=
 (Xz a0).bind fun y8=>(Xz a1).bind fun y9=>((some (⟨[0,0,0,0,0,0,0,0],rfl⟩:(Arr Int 8)))).bind fun y10=>(Z8 (Vf a2 y9) (0,y8)).bind fun (z23:(Arr Int 8))=>(J9 z23.1 0).bind fun y29=>some y29
noncomputable def J6 (a0:Int) (a1:Int):Option Bool :=
 (Ur a0 0 a1).bind fun y2=>some (y2 == 0)
structure Zj where
 At:Int
 Mask:Int
 Old:Int
 New:Int
mutual
structure Zc where
 Kind:Int
 Old:Zb
 New:Zb
 Words:(List Zj)
 Kids:(List Zd)
 List_:Int
 Ops:(List Zh)
structure Zh where
 Kind:Int
 N:Int
 L:(List Zb)
 E:Zc
structure Zd where
 At:Int
 E:Zc
end
noncomputable def K4 (a0:Zc):Option Bool :=
 (cond (a0.Kind == 0) ((Q6 a0.Old).bind fun y6=>cond y6 ((Q6 a0.New).bind fun y7=>some (cond (cond (cond (cond (a0.Kind == 0) y6 false) y7 false) ((IntKind.i64.wrap ((IntKind.i64.wrap ((a0.Words.length:Int)+(a0.Kids.length:Int)))+(a0.Ops.length:Int))) == 0) false) (a0.List_ == 0) false)) (some false)) (some false)).bind fun (z3:Bool)=>some z3
noncomputable def Jn (a0:Zc) (s0_:(Int×Int×Int)):Option ((Int×Int×Int) ⊕ (Int×Int)) :=
 cond (decide (s0_.2.2 < (a0.Ops.length:Int))) (((Xi a0.Ops s0_.2.2).bind fun x3=>(cond (x3.Kind == 3) (some 1) (some (IntKind.i64.wrap (x3.N+(x3.L.length:Int))))).bind fun (z4:Int)=>(cond (x3.Kind != 2) (some (IntKind.i64.wrap (s0_.1+z4))) (some s0_.1)).bind fun (z6:Int)=>(cond (x3.Kind != 1) (some (IntKind.i64.wrap (s0_.2.1+z4))) (some s0_.2.1)).bind fun (z8:Int)=>(cond (decide (1048576 < z6)) (some 1048576) (some z6)).bind fun (z10:Int)=>cond (decide (1048576 < z8)) (some (z10,1048576)) (some (z10,z8))).bind fun (z1:(Int×Int))=>some (.inl (z1.1,z1.2,(IntKind.i64.wrap (s0_.2.2+1))))) (some (.inr (s0_.1,s0_.2.1)))
noncomputable def Kx (a0:Zc):Option (Int×Int) :=
 (Z8 (Jn a0) (0,0,0)).bind fun (z14:(Int×Int))=>some (z14.1,z14.2)
noncomputable def Q8 (a0:Zc) (s0_:(Int×Int)):Option ((Int×Int) ⊕ (Unit ⊕ Unit)) :=
 cond (decide (s0_.2 < (a0.Words.length:Int))) ((Xi a0.Words s0_.2).bind fun x19=>(cond (decide (x19.At≤s0_.1)) (some true) (cond (decide (65534 < x19.At)) (some true) (cond (x19.Mask == 0) (some true) ((J6 x19.Old x19.Mask).bind fun y25=>cond y25 ((J6 x19.New x19.Mask).bind fun y26=>some (cond (cond (cond (cond (decide (x19.At≤s0_.1)) true (decide (65534 < x19.At))) true (x19.Mask == 0)) true (!y25)) true (!y26))) (some true))))).bind fun (z22:Bool)=>cond z22 (some (.inr (.inl ()))) (some (.inl (x19.At,(IntKind.i64.wrap (s0_.2+1)))))) (some (.inr (.inr ())))
noncomputable def Q9 (Xb:(Zc→Int→Option Bool)) (a0:Zc) (a1:Int) (s1_:(Int×Int)):Option ((Int×Int) ⊕ (Unit ⊕ Unit)) :=
 cond (decide (s1_.2 < (a0.Kids.length:Int))) ((Xi a0.Kids s1_.2).bind fun x35=>(cond (decide (x35.At≤s1_.1)) (some true) (cond (decide (65534 < x35.At)) (some true) (cond (x35.E.Kind == 0) (some true) ((Xb x35.E (IntKind.i64.wrap (a1 - 1))).bind fun y39=>some (cond (cond (cond (decide (x35.At≤s1_.1)) true (decide (65534 < x35.At))) true (x35.E.Kind == 0)) true (!y39)))))).bind fun (z37:Bool)=>cond z37 (some (.inr (.inl ()))) (some (.inl (x35.At,(IntKind.i64.wrap (s1_.2+1)))))) (some (.inr (.inr ())))
noncomputable def Qj (X6:(Int→Zh→Int→Option Bool)) (a0:Zc) (a1:Int) (s2_:Int):Option (Int ⊕ (Unit ⊕ Unit)) :=
 cond (decide (s2_ < (a0.Ops.length:Int))) ((Xi a0.Ops s2_).bind fun x48=>(X6 a0.List_ x48 (IntKind.i64.wrap (a1 - 1))).bind fun y49=>cond (!y49) (some (.inr (.inl ()))) (some (.inl (IntKind.i64.wrap (s2_+1))))) (some (.inr (.inr ())))
noncomputable def Vo (Xb:(Zc→Int→Option Bool)) (X6:(Int→Zh→Int→Option Bool)) (a0:Zc) (a1:Int):Option Bool :=
 cond (cond (cond (a1 == 0) true (decide (a0.Kind < 0))) true (decide (3 < a0.Kind))) (some false) ((cond (a0.Kind != 1) ((Q6 a0.Old).bind fun y6=>cond y6 ((Q6 a0.New).bind fun y7=>some (cond (cond (cond (a0.Kind != 1) (!(cond y6 y7 false)) false) true (cond (a0.Kind != 2) (decide (0 < (IntKind.i64.wrap ((a0.Words.length:Int)+(a0.Kids.length:Int))))) false)) true (cond (a0.Kind != 3) (cond (a0.List_ != 0) true (decide (0 < (a0.Ops.length:Int)))) false))) (some true)) (some (cond (cond (a0.Kind != 2) (decide (0 < (IntKind.i64.wrap ((a0.Words.length:Int)+(a0.Kids.length:Int))))) false) true (cond (a0.Kind != 3) (cond (a0.List_ != 0) true (decide (0 < (a0.Ops.length:Int)))) false)))).bind fun (z3:Bool)=>cond z3 (some false) (cond (a0.Kind == 1) (((Vv a0.Old 64).bind fun y15=>cond y15 ((Vv a0.New 64).bind fun y16=>some (cond (cond (cond y15 y16 false) (a0.Old.Kind != 10) false) (a0.New.Kind != 10) false)) (some false)).bind fun (z12:Bool)=>some z12) ((Z8 (Q8 a0) ((-1),0)).bind fun (z33:(Unit ⊕ Unit))=>match z33 with | .inl z33=>some false | .inr z33=>(Z8 (Q9 Xb a0 a1) ((-1),0)).bind fun (z45:(Unit ⊕ Unit))=>match z45 with | .inl z45=>some false | .inr z45=>cond (cond (a0.Kind == 3) (cond (decide (a0.List_ < 2)) true (decide (9 < a0.List_))) false) (some false) ((Z8 (Qj X6 a0 a1) 0).bind fun (z52:(Unit ⊕ Unit))=>match z52 with | .inl z52=>some false | .inr z52=>(Kx a0).bind fun y54=>some (cond (decide (y54.1 < 1048576)) (decide (y54.2 < 1048576)) false)))))
noncomputable def Vp (a0:Int) (a1:Zh) (s0_:Int):Option (Int ⊕ (Unit ⊕ Unit)) :=
 cond (decide (s0_ < (a1.L.length:Int))) ((G9 a1.L s0_ (IntKind.i64.wrap (s0_+1))).bind fun l10=>(Vv (⟨a0,[],l10⟩:Zb) 64).bind fun y11=>cond (!y11) (some (.inr (.inl ()))) (some (.inl (IntKind.i64.wrap (s0_+1))))) (some (.inr (.inr ())))
noncomputable def Gi (Xb:(Zc→Int→Option Bool)) (X6:(Int→Zh→Int→Option Bool)) (a0:Int) (a1:Zh) (a2:Int):Option Bool :=
 cond (a1.Kind == 0) ((cond (decide (1≤a1.N)) (cond (decide (a1.N≤1048576)) (cond ((a1.L.length:Int) == 0) ((K4 a1.E).bind fun y4=>some (cond (cond (cond (decide (1≤a1.N)) (decide (a1.N≤1048576)) false) ((a1.L.length:Int) == 0) false) y4 false)) (some false)) (some false)) (some false)).bind fun (z2:Bool)=>some z2) (cond (cond (cond (a1.N != 0) true (decide (a1.Kind < 0))) true (decide (3 < a1.Kind))) (some false) (cond (decide (a1.Kind < 3)) ((Z8 (Vp a0 a1) 0).bind fun (z14:(Unit ⊕ Unit))=>match z14 with | .inl z14=>some false | .inr z14=>(cond (decide (0 < (a1.L.length:Int))) ((K4 a1.E).bind fun y18=>some (cond (decide (0 < (a1.L.length:Int))) y18 false)) (some false)).bind fun (z16:Bool)=>some z16) ((cond (decide (0 < (a1.L.length:Int))) (some true) (cond (a1.E.Kind == 0) (some true) (cond (decide (a0≤7)) (some true) ((Xb a1.E a2).bind fun y23=>some (cond (cond (cond (decide (0 < (a1.L.length:Int))) true (a1.E.Kind == 0)) true (decide (a0≤7))) true (!y23)))))).bind fun (z21:Bool)=>cond z21 (some false) (some (cond (cond (a0 == 8) true (a1.E.Kind == 2)) true (cond (cond (a1.E.Kind == 1) (a1.E.Old.Kind == 1) false) (a1.E.New.Kind == 1) false))))))
noncomputable def Yn:Nat→((Zc→Int→Option Bool)×(Int→Zh→Int→Option Bool))
 | 0=>((fun _ _=>none),(fun _ _ _=>none))
 | k+1=>(Vo ((Yn k).1) ((Yn k).2),Gi ((Yn k).1) ((Yn k).2))
noncomputable def Gc (a0:Zc) (a1:Int):Option Bool:=lim fun k=>(Yn k).1 a0 a1
noncomputable def Vg (a0:(List Int)) (s0_:Int):Option (Int ⊕ Int) :=
 (cond (decide (0 < s0_)) ((Xi a0 (IntKind.i64.wrap (s0_ - 1))).bind fun x4=>some (cond (decide (0 < s0_)) (x4 == 0) false)) (some false)).bind fun (z2:Bool)=>cond z2 (some (.inl (IntKind.i64.wrap (s0_ - 1)))) (some (.inr s0_))
noncomputable def Kq (a0:(List Int)):Option (List Int) :=
 (Z8 (Vg a0) (a0.length:Int)).bind fun (z7:Int)=>(G9 a0 0 z7).bind fun l9=>some l9
noncomputable def X1 (a0:(List Int)) (a1:(List Int)) (s0_:Int):Option (Int ⊕ (Unit ⊕ Unit)) :=
 cond (decide (s0_ < (a0.length:Int))) ((Xi a0 s0_).bind fun x3=>(Xi a1 s0_).bind fun x4=>cond (x3 != x4) (some (.inr (.inl ()))) (some (.inl (IntKind.i64.wrap (s0_+1))))) (some (.inr (.inr ())))
noncomputable def Xt (a0:(List Int)) (a1:(List Int)):Option Bool :=
 cond ((a0.length:Int) != (a1.length:Int)) (some false) ((Z8 (X1 a0 a1) 0).bind fun (z7:(Unit ⊕ Unit))=>match z7 with | .inl z7=>some false | .inr z7=>some true)
noncomputable def Vw (a0:(List Zb)) (s0_:Int):Option (Int ⊕ Int) :=
 (cond (decide (0 < s0_)) ((Xi a0 (IntKind.i64.wrap (s0_ - 1))).bind fun x6=>some (cond (decide (0 < s0_)) (x6.Kind == 0) false)) (some false)).bind fun (z3:Bool)=>cond z3 (some (.inl (IntKind.i64.wrap (s0_ - 1)))) (some (.inr s0_))
noncomputable def Vd (a0:(List Zb)):Option (List Zb) :=
 (Z8 (Vw a0) (a0.length:Int)).bind fun (z10:Int)=>(G9 a0 0 z10).bind fun l12=>some l12
noncomputable def Zc5 (Jf:(Zb→Zb→Option Bool)) (Zr:((List Zb)→(List Zb)→Option Bool)) (a0:Zb) (a1:Zb):Option Bool :=
 cond (a0.Kind != a1.Kind) (some false) (cond (a0.Kind == 0) (some true) (cond (a0.Kind == 1) (((Kq a0.Words).bind fun y14=>(Kq a1.Words).bind fun y15=>(Xt y14 y15).bind fun y16=>cond y16 ((Vd a0.Kids).bind fun y17=>(Vd a1.Kids).bind fun y18=>(Zr y17 y18).bind fun y19=>some (cond y16 y19 false)) (some false)).bind fun (z7:Bool)=>some z7) (((Xt a0.Words a1.Words).bind fun y26=>cond y26 ((Zr a0.Kids a1.Kids).bind fun y27=>some (cond y26 y27 false)) (some false)).bind fun (z23:Bool)=>some z23)))
noncomputable def Yc (Jf:(Zb→Zb→Option Bool)) (a0:(List Zb)) (a1:(List Zb)) (s0_:Int):Option (Int ⊕ (Unit ⊕ Unit)) :=
 cond (decide (s0_ < (a0.length:Int))) ((Xi a0 s0_).bind fun x2=>(Xi a1 s0_).bind fun x4=>(Jf x2 x4).bind fun y6=>cond (!y6) (some (.inr (.inl ()))) (some (.inl (IntKind.i64.wrap (s0_+1))))) (some (.inr (.inr ())))
noncomputable def Yh (Jf:(Zb→Zb→Option Bool)) (Zr:((List Zb)→(List Zb)→Option Bool)) (a0:(List Zb)) (a1:(List Zb)):Option Bool :=
 cond ((a0.length:Int) != (a1.length:Int)) (some false) ((Z8 (Yc Jf a0 a1) 0).bind fun (z9:(Unit ⊕ Unit))=>match z9 with | .inl z9=>some false | .inr z9=>some true)
noncomputable def Xn:Nat→((Zb→Zb→Option Bool)×((List Zb)→(List Zb)→Option Bool))
 | 0=>((fun _ _=>none),(fun _ _=>none))
 | k+1=>(Zc5 ((Xn k).1) ((Xn k).2),Yh ((Xn k).1) ((Xn k).2))
noncomputable def Zl6 (a0:Zb) (a1:Zb):Option Bool:=lim fun k=>(Xn k).1 a0 a1
noncomputable def Yu (a0:(List Zb)) (a1:(List Zb)):Option Bool:=lim fun k=>(Xn k).2 a0 a1
noncomputable def Gk (a0:List Int):Option (List Int) :=
 V1 8 ([]:List Int) a0
noncomputable def V8 (a0:List Zb):Option (List Zb) :=
 V1 56 ([]:List Zb) a0
noncomputable def Zi9 (a0:Zb) (a1:Int):Option Int :=
 cond (cond (decide (a1 < 0)) true (decide ((a0.Words.length:Int)≤a1))) (some 0) ((Xi a0.Words a1).bind fun x2=>some x2)
noncomputable def Zcm (a0:Int):Option Bool :=
 some (cond (decide (a0 < 0)) true (decide (65534 < a0)))
noncomputable def Zat (a0:Int) (s0_:(Int×Int)):Option ((Int×Int) ⊕ Int) :=
 cond (decide (s0_.2 < 8)) (((Zkx (0≤s0_.2)).bind fun u3=>cond ((IntKind.u8.wrap (Zdt .u8 (Int.fdiv a0 (2 ^ min (Int.toNat s0_.2) 8)) 1)) == 1) ((Zkx (0≤(IntKind.i64.wrap (8 * s0_.2)))).bind fun u4=>some (IntKind.u64.wrap (Zk1 .u64 s0_.1 (IntKind.u64.wrap (255 * 2 ^ min (Int.toNat (IntKind.i64.wrap (8 * s0_.2))) 64))))) (some s0_.1)).bind fun (z1:Int)=>some (.inl (z1,(IntKind.i64.wrap (s0_.2+1))))) (some (.inr s0_.1))
noncomputable def Zas (a0:Int):Option Int :=
 (Z8 (Zat a0) (0,0)).bind fun (z7:Int)=>some z7
noncomputable def Zct (a0:Int) (a1:Int) (a2:Int):Option Int :=
 (Zas a2).bind fun y2=>some (IntKind.u64.wrap (Zk1 .u64 (IntKind.u64.wrap (Zsx .u64 a0 y2)) (IntKind.u64.wrap (Zdt .u64 a1 y2))))
noncomputable def Zf4 (a1:Int) (a2:Int) (s0_:(List Int)):Option ((List Int) ⊕ (List Int)) :=
 cond (cond (decide ((s0_.length:Int)≤a1)) (a2 != 0) false) ((V1 8 s0_ ([0]:List Int)).bind fun l1=>some (.inl l1)) (some (.inr s0_))
noncomputable def Ze7 (a0:Zb) (a1:Int) (a2:Int):Option Zb :=
 (Z8 (Zf4 a1 a2) a0.Words).bind fun (z3:(List Int))=>cond (decide (a1 < (z3.length:Int))) ((Xi z3 a1).bind fun x4=>some (⟨a0.Kind,(Zdo z3 a1 a2),a0.Kids⟩:Zb)) (some (⟨a0.Kind,z3,a0.Kids⟩:Zb))
noncomputable def Zk3 (a0:Zb) (a1:Int):Option Zb :=
 cond (cond (decide (a1 < 0)) true (decide ((a0.Kids.length:Int)≤a1))) (some (⟨0,[],[]⟩:Zb)) ((Xi a0.Kids a1).bind fun x2=>some x2)
noncomputable def Zgy (a1:Int) (a2:Zb) (s0_:(List Zb)):Option ((List Zb) ⊕ (List Zb)) :=
 cond (cond (decide ((s0_.length:Int)≤a1)) (a2.Kind != 0) false) ((V1 56 s0_ ([(⟨0,[],[]⟩:Zb)]:List Zb)).bind fun l1=>(Xi l1 (s0_.length:Int)).bind fun x2=>some (.inl (s0_++[(⟨0,[],[]⟩:Zb)]))) (some (.inr s0_))
noncomputable def Zf3 (a0:Zb) (a1:Int) (a2:Zb):Option Zb :=
 (Z8 (Zgy a1 a2) a0.Kids).bind fun (z5:(List Zb))=>cond (decide (a1 < (z5.length:Int))) ((Xi z5 a1).bind fun x6=>some (⟨a0.Kind,a0.Words,(Zdo z5 a1 a2)⟩:Zb)) (some (⟨a0.Kind,a0.Words,z5⟩:Zb))
noncomputable def Zi8 (a0:Int):Option Bool :=
 some (cond (decide (2≤a0)) (decide (a0≤9)) false)
structure Zm where
 left:(List Zb)
 out:(List Zb)
noncomputable def Zhx (Yy:(Zc→Zb→Option (Zb×Bool))) (Yf:(Zc→Zb→Option (Zb×Bool))) (Xa:(Zc→Zb→Option (Zb×Bool))) (Z9:(Zm→Zh→Option (Bool×Zm))) (Z7:(Zm→Zc→Option (Bool×Zm))) (a0:Zc) (a1:Zb):Option (Zb×Bool) :=
 cond (a0.Kind == 0) (some (a1,true)) (cond (a0.Kind == 1) ((Zl6 a1 a0.Old).bind fun y2=>some (a0.New,y2)) (cond (a0.Kind == 2) ((Yf a0 a1).bind fun y4=>some (y4.1,y4.2)) (cond (a0.Kind == 3) ((Xa a0 a1).bind fun y6=>some (y6.1,y6.2)) (some ((⟨0,[],[]⟩:Zb),false)))))
noncomputable def Zek (a0:Zc) (a1:Zb) (s0_:(Int×Int×(List Int)×(List Zb))):Option ((Int×Int×(List Int)×(List Zb)) ⊕ (Unit ⊕ (Int×(List Int)×(List Zb)))) :=
 cond (decide (s0_.1 < (a0.Words.length:Int))) ((Xi a0.Words s0_.1).bind fun x110=>(Zi9 a1 x110.At).bind fun y112=>((Zcm x110.At).bind fun y118=>cond y118 (some true) ((Zas x110.Mask).bind fun y119=>some (cond y118 true ((IntKind.u64.wrap (Zdt .u64 (IntKind.u64.wrap (Zkd .u64 y112 x110.Old)) y119)) != 0)))).bind fun (z115:Bool)=>cond z115 (some (.inr (.inl ()))) ((Zct y112 x110.New x110.Mask).bind fun y121=>(Ze7 (⟨s0_.2.1,s0_.2.2.1,s0_.2.2.2⟩:Zb) x110.At y121).bind fun y122=>some (.inl ((IntKind.i64.wrap (s0_.1+1)),y122.Kind,y122.Words,y122.Kids)))) (some (.inr (.inr (s0_.2.1,s0_.2.2.1,s0_.2.2.2))))
noncomputable def Zel (Yy:(Zc→Zb→Option (Zb×Bool))) (a0:Zc) (a1:Zb) (s1_:(Int×Int×(List Int)×(List Zb))):Option ((Int×Int×(List Int)×(List Zb)) ⊕ (Unit ⊕ (Int×(List Int)×(List Zb)))) :=
 cond (decide (s1_.1 < (a0.Kids.length:Int))) ((Xi a0.Kids s1_.1).bind fun x127=>(Zk3 a1 x127.At).bind fun y130=>(Yy x127.E y130).bind fun y131=>(Zcm x127.At).bind fun y133=>cond (cond y133 true (!y131.2)) (some (.inr (.inl ()))) ((Zf3 (⟨s1_.2.1,s1_.2.2.1,s1_.2.2.2⟩:Zb) x127.At y131.1).bind fun y134=>some (.inl ((IntKind.i64.wrap (s1_.1+1)),y134.Kind,y134.Words,y134.Kids)))) (some (.inr (.inr (s1_.2.1,s1_.2.2.1,s1_.2.2.2))))
noncomputable def Zc3 (Yy:(Zc→Zb→Option (Zb×Bool))) (Yf:(Zc→Zb→Option (Zb×Bool))) (Xa:(Zc→Zb→Option (Zb×Bool))) (Z9:(Zm→Zh→Option (Bool×Zm))) (Z7:(Zm→Zc→Option (Bool×Zm))) (a0:Zc) (a1:Zb):Option (Zb×Bool) :=
 cond (a1.Kind != 1) (some ((⟨0,[],[]⟩:Zb),false)) ((Gk a1.Words).bind fun y25=>(V8 a1.Kids).bind fun y61=>(Z8 (Zek a0 a1) (0,1,y25,y61)).bind fun (z125:(Unit ⊕ (Int×(List Int)×(List Zb))))=>match z125 with | .inl z125=>some ((⟨0,[],[]⟩:Zb),false) | .inr z125=>(Z8 (Zel Yy a0 a1) (0,z125.1,z125.2.1,z125.2.2)).bind fun (z137:(Unit ⊕ (Int×(List Int)×(List Zb))))=>match z137 with | .inl z137=>some ((⟨0,[],[]⟩:Zb),false) | .inr z137=>some ((⟨z137.1,z137.2.1,z137.2.2⟩:Zb),true))
noncomputable def Zih (Z9:(Zm→Zh→Option (Bool×Zm))) (a0:Zc) (s0_:(Int×(List Zb)×(List Zb))):Option ((Int×(List Zb)×(List Zb)) ⊕ (Unit ⊕ ((List Zb)×(List Zb)))) :=
 cond (decide (s0_.1 < (a0.Ops.length:Int))) ((Xi a0.Ops s0_.1).bind fun x7=>(Z9 (⟨s0_.2.1,s0_.2.2⟩:Zm) x7).bind fun y9=>cond (!y9.1) (some (.inr (.inl ()))) (some (.inl ((IntKind.i64.wrap (s0_.1+1)),y9.2.left,y9.2.out)))) (some (.inr (.inr (s0_.2.1,s0_.2.2))))
noncomputable def Zhy (Yy:(Zc→Zb→Option (Zb×Bool))) (Yf:(Zc→Zb→Option (Zb×Bool))) (Xa:(Zc→Zb→Option (Zb×Bool))) (Z9:(Zm→Zh→Option (Bool×Zm))) (Z7:(Zm→Zc→Option (Bool×Zm))) (a0:Zc) (a1:Zb):Option (Zb×Bool) :=
 (cond (a1.Kind != a0.List_) (some true) ((Zi8 a1.Kind).bind fun y4=>some (cond (a1.Kind != a0.List_) true (!y4)))).bind fun (z2:Bool)=>cond z2 (some ((⟨0,[],[]⟩:Zb),false)) ((Z8 (Zih Z9 a0) (0,a1.Kids,([]:List Zb))).bind fun (z12:(Unit ⊕ ((List Zb)×(List Zb))))=>match z12 with | .inl z12=>some ((⟨0,[],[]⟩:Zb),false) | .inr z12=>some ((⟨a1.Kind,[],z12.2⟩:Zb),((z12.1.length:Int) == 0)))
noncomputable def Zbz (Yy:(Zc→Zb→Option (Zb×Bool))) (Yf:(Zc→Zb→Option (Zb×Bool))) (Xa:(Zc→Zb→Option (Zb×Bool))) (Z9:(Zm→Zh→Option (Bool×Zm))) (Z7:(Zm→Zc→Option (Bool×Zm))) (a0:Zm) (a1:Zh):Option (Bool×Zm) :=
 cond (a1.Kind == 0) ((cond (decide (a1.N < 0)) (some true) (some (cond (decide (a1.N < 0)) true (decide ((a0.left.length:Int) < a1.N))))).bind fun (z1:Bool)=>cond z1 (some (false,(⟨a0.left,a0.out⟩:Zm))) ((G9 a0.left 0 a1.N).bind fun l5=>(V1 56 a0.out l5).bind fun l6=>(G9 a0.left a1.N (a0.left.length:Int)).bind fun l8=>some (true,(⟨l8,l6⟩:Zm)))) (cond (a1.Kind == 1) ((cond (decide ((a0.left.length:Int) < (a1.L.length:Int))) (some true) ((G9 a0.left 0 (a1.L.length:Int)).bind fun l15=>(Yu l15 a1.L).bind fun y16=>some (cond (decide ((a0.left.length:Int) < (a1.L.length:Int))) true (!y16)))).bind fun (z12:Bool)=>cond z12 (some (false,(⟨a0.left,a0.out⟩:Zm))) ((G9 a0.left (a1.L.length:Int) (a0.left.length:Int)).bind fun l19=>some (true,(⟨l19,a0.out⟩:Zm)))) (cond (a1.Kind == 2) ((V1 56 a0.out a1.L).bind fun l22=>some (true,(⟨a0.left,l22⟩:Zm))) (cond (a1.Kind == 3) ((Z7 (⟨a0.left,a0.out⟩:Zm) a1.E).bind fun y24=>some (y24.1,(⟨y24.2.left,y24.2.out⟩:Zm))) (some (false,(⟨a0.left,a0.out⟩:Zm))))))
noncomputable def U7 (Yy:(Zc→Zb→Option (Zb×Bool))) (Yf:(Zc→Zb→Option (Zb×Bool))) (Xa:(Zc→Zb→Option (Zb×Bool))) (Z9:(Zm→Zh→Option (Bool×Zm))) (Z7:(Zm→Zc→Option (Bool×Zm))) (a0:Zm) (a1:Zc):Option (Bool×Zm) :=
 cond ((a0.left.length:Int) == 0) (some (false,(⟨a0.left,a0.out⟩:Zm))) ((Xi a0.left 0).bind fun x3=>(Yy a1 x3).bind fun y4=>(V1 56 a0.out ([(⟨0,[],[]⟩:Zb)]:List Zb)).bind fun l8=>(Xi l8 (a0.out.length:Int)).bind fun x9=>(G9 a0.left 1 (a0.left.length:Int)).bind fun l12=>some (y4.2,(⟨l12,(a0.out++[y4.1])⟩:Zm)))
noncomputable def Yd:Nat→((Zc→Zb→Option (Zb×Bool))×(Zc→Zb→Option (Zb×Bool))×(Zc→Zb→Option (Zb×Bool))×(Zm→Zh→Option (Bool×Zm))×(Zm→Zc→Option (Bool×Zm)))
 | 0=>((fun _ _=>none),(fun _ _=>none),(fun _ _=>none),(fun _ _=>none),(fun _ _=>none))
 | k+1=>(Zhx ((Yd k).1) ((Yd k).2.1) ((Yd k).2.2.1) ((Yd k).2.2.2.1) ((Yd k).2.2.2.2),Zc3 ((Yd k).1) ((Yd k).2.1) ((Yd k).2.2.1) ((Yd k).2.2.2.1) ((Yd k).2.2.2.2),Zhy ((Yd k).1) ((Yd k).2.1) ((Yd k).2.2.1) ((Yd k).2.2.2.1) ((Yd k).2.2.2.2),Zbz ((Yd k).1) ((Yd k).2.1) ((Yd k).2.2.1) ((Yd k).2.2.2.1) ((Yd k).2.2.2.2),U7 ((Yd k).1) ((Yd k).2.1) ((Yd k).2.2.1) ((Yd k).2.2.2.1) ((Yd k).2.2.2.2))
noncomputable def Zl5 (a0:Zc) (a1:Zb):Option (Zb×Bool):=lim fun k=>(Yd k).1 a0 a1
noncomputable def Up (U3:(Zb→Option Zb)) (z1:((List Int)×(List Zb))) (s0_:(Int×(List Zb))):Option ((Int×(List Zb)) ⊕ (List Zb)) :=
 cond (decide (s0_.1 < (z1.2.length:Int))) ((Xi z1.2 s0_.1).bind fun x9=>(U3 x9).bind fun y10=>(Xi s0_.2 s0_.1).bind fun x11=>some (.inl ((IntKind.i64.wrap (s0_.1+1)),(Zdo s0_.2 s0_.1 y10)))) (some (.inr s0_.2))
noncomputable def Zem (U3:(Zb→Option Zb)) (a0:Zb):Option Zb :=
 cond (a0.Kind == 0) (some (⟨0,[],[]⟩:Zb)) ((cond (a0.Kind == 1) ((Kq a0.Words).bind fun y2=>(Vd a0.Kids).bind fun y3=>some (y2,y3)) (some (a0.Words,a0.Kids))).bind fun (z1:((List Int)×(List Zb)))=>(cond (decide (0 < (z1.2.length:Int))) ((Zja 56 (z1.2.length:Int) (⟨(0:Int),[],[]⟩:Zb)).bind fun l6=>some l6) (some ([]:List Zb))).bind fun (z5:(List Zb))=>(Z8 (Up U3 z1) (0,z5)).bind fun (z14:(List Zb))=>some (⟨a0.Kind,z1.1,z14⟩:Zb))
noncomputable def Vk:Nat→(Zb→Option Zb)
 | 0=>(fun _=>none)
 | k+1=>Zem ((Vk k))
noncomputable def U1 (a0:Zb):Option Zb:=lim fun k=>(Vk k) a0
noncomputable def Zbv (a0:Zc) (a1:Zb):Option (Zb×Bool) :=
 (Zl5 a0 a1).bind fun y2=>cond (!y2.2) (some ((⟨0,[],[]⟩:Zb),false)) ((U1 y2.1).bind fun y4=>some (y4,true))
noncomputable def Zfr (a0:Zc) (s0_:(Int×(List Zj))):Option ((Int×(List Zj)) ⊕ (List Zj)) :=
 cond (decide (s0_.1 < (a0.Words.length:Int))) ((Xi a0.Words s0_.1).bind fun x2=>(V1 32 s0_.2 ([(⟨x2.At,x2.Mask,x2.New,x2.Old⟩:Zj)]:List Zj)).bind fun l3=>some (.inl ((IntKind.i64.wrap (s0_.1+1)),l3))) (some (.inr s0_.2))
noncomputable def Zfs (Xu:(Zc→Option Zc)) (a0:Zc) (s1_:(Int×(List Zd))):Option ((Int×(List Zd)) ⊕ (List Zd)) :=
 cond (decide (s1_.1 < (a0.Kids.length:Int))) ((Xi a0.Kids s1_.1).bind fun x7=>(Xu x7.E).bind fun y8=>(V1 208 s1_.2 ([(⟨x7.At,y8⟩:Zd)]:List Zd)).bind fun l9=>some (.inl ((IntKind.i64.wrap (s1_.1+1)),l9))) (some (.inr s1_.2))
noncomputable def Zft (Xl:(Zh→Option Zh)) (a0:Zc) (s2_:(Int×(List Zh))):Option ((Int×(List Zh)) ⊕ (List Zh)) :=
 cond (decide (s2_.1 < (a0.Ops.length:Int))) ((Xi a0.Ops s2_.1).bind fun x13=>(Xl x13).bind fun y14=>(V1 240 s2_.2 ([y14]:List Zh)).bind fun l15=>some (.inl ((IntKind.i64.wrap (s2_.1+1)),l15))) (some (.inr s2_.2))
noncomputable def Ze5 (Xu:(Zc→Option Zc)) (Xl:(Zh→Option Zh)) (a0:Zc):Option Zc :=
 (Z8 (Zfr a0) (0,([]:List Zj))).bind fun (z5:(List Zj))=>(Z8 (Zfs Xu a0) (0,([]:List Zd))).bind fun (z11:(List Zd))=>(Z8 (Zft Xl a0) (0,([]:List Zh))).bind fun (z17:(List Zh))=>some (⟨a0.Kind,a0.New,a0.Old,z5,z11,a0.List_,z17⟩:Zc)
noncomputable def Zc4 (Xu:(Zc→Option Zc)) (Xl:(Zh→Option Zh)) (a0:Zh):Option Zh :=
 (cond (a0.Kind == 1) (some (2,a0.E.Kind,a0.E.Old.Kind,a0.E.Old.Words,a0.E.Old.Kids,a0.E.New.Kind,a0.E.New.Words,a0.E.New.Kids,a0.E.Words,a0.E.Kids,a0.E.List_,a0.E.Ops)) (cond (a0.Kind == 2) (some (1,a0.E.Kind,a0.E.Old.Kind,a0.E.Old.Words,a0.E.Old.Kids,a0.E.New.Kind,a0.E.New.Words,a0.E.New.Kids,a0.E.Words,a0.E.Kids,a0.E.List_,a0.E.Ops)) (cond (a0.Kind == 3) ((Xu a0.E).bind fun y2=>some (a0.Kind,y2.Kind,y2.Old.Kind,y2.Old.Words,y2.Old.Kids,y2.New.Kind,y2.New.Words,y2.New.Kids,y2.Words,y2.Kids,y2.List_,y2.Ops)) (some (a0.Kind,a0.E.Kind,a0.E.Old.Kind,a0.E.Old.Words,a0.E.Old.Kids,a0.E.New.Kind,a0.E.New.Words,a0.E.New.Kids,a0.E.Words,a0.E.Kids,a0.E.List_,a0.E.Ops))))).bind fun (z1:(Int×Int×Int×(List Int)×(List Zb)×Int×(List Int)×(List Zb)×(List Zj)×(List Zd)×Int×(List Zh)))=>some (⟨z1.1,a0.N,a0.L,⟨z1.2.1,⟨z1.2.2.1,z1.2.2.2.1,z1.2.2.2.2.1⟩,⟨z1.2.2.2.2.2.1,z1.2.2.2.2.2.2.1,z1.2.2.2.2.2.2.2.1⟩,z1.2.2.2.2.2.2.2.2.1,z1.2.2.2.2.2.2.2.2.2.1,z1.2.2.2.2.2.2.2.2.2.2.1,z1.2.2.2.2.2.2.2.2.2.2.2⟩⟩:Zh)
noncomputable def Ko:Nat→((Zc→Option Zc)×(Zh→Option Zh))
 | 0=>((fun _=>none),(fun _=>none))
 | k+1=>(Ze5 ((Ko k).1) ((Ko k).2),Zc4 ((Ko k).1) ((Ko k).2))
noncomputable def Zik (a0:Zc):Option Zc:=lim fun k=>(Ko k).1 a0
noncomputable def Qk (a0:List Zj):Option (List Zj) :=
 V1 32 ([]:List Zj) a0
structure Zu where
 out:(List Zh)
 kept:Int
 gone:(List Zb)
 come:(List Zb)
noncomputable def Xo (a0:Zu):Option Zu :=
 (cond (decide (0 < a0.kept)) ((V1 240 a0.out ([(⟨0,0,[],⟨0,⟨0,[],[]⟩,⟨0,[],[]⟩,[],[],0,[]⟩⟩:Zh)]:List Zh)).bind fun l2=>(Xi l2 (a0.out.length:Int)).bind fun x3=>some (a0.out++[(⟨0,a0.kept,[],⟨0,⟨0,[],[]⟩,⟨0,[],[]⟩,[],[],0,[]⟩⟩:Zh)])) (some a0.out)).bind fun (z1:(List Zh))=>(cond (decide (0 < (a0.gone.length:Int))) ((V1 240 z1 ([(⟨0,0,[],⟨0,⟨0,[],[]⟩,⟨0,[],[]⟩,[],[],0,[]⟩⟩:Zh)]:List Zh)).bind fun l9=>(Xi l9 (z1.length:Int)).bind fun x10=>some ((z1++[(⟨1,0,a0.gone,⟨0,⟨0,[],[]⟩,⟨0,[],[]⟩,[],[],0,[]⟩⟩:Zh)]),a0.gone)) (some (z1,a0.gone))).bind fun (z6:((List Zh)×(List Zb)))=>(cond (decide (0 < (a0.come.length:Int))) ((V1 240 z6.1 ([(⟨0,0,[],⟨0,⟨0,[],[]⟩,⟨0,[],[]⟩,[],[],0,[]⟩⟩:Zh)]:List Zh)).bind fun l16=>(Xi l16 (z6.1.length:Int)).bind fun x17=>some ((z6.1++[(⟨2,0,a0.come,⟨0,⟨0,[],[]⟩,⟨0,[],[]⟩,[],[],0,[]⟩⟩:Zh)]),a0.come)) (some (z6.1,a0.come))).bind fun (z13:((List Zh)×(List Zb)))=>some (⟨z13.1,0,[],[]⟩:Zu)
noncomputable def Jq (a0:Zu) (a1:Int):Option Zu :=
 (cond (a0.kept == 0) ((Xo (⟨a0.out,a0.kept,a0.gone,a0.come⟩:Zu)).bind fun y2=>some (y2.out,y2.gone,y2.come,y2.kept)) (some (a0.out,a0.gone,a0.come,a0.kept))).bind fun (z1:((List Zh)×(List Zb)×(List Zb)×Int))=>some (⟨z1.1,(IntKind.i64.wrap (z1.2.2.2+a1)),z1.2.1,z1.2.2.1⟩:Zu)
noncomputable def Qm (a2:(List Zb)) (s0_:(Int×(List Zb))):Option ((Int×(List Zb)) ⊕ (List Zb)) :=
 cond (decide (s0_.1 < (a2.length:Int))) ((Xi a2 s0_.1).bind fun x5=>(U1 x5).bind fun y6=>(V1 56 s0_.2 ([(⟨0,[],[]⟩:Zb)]:List Zb)).bind fun l7=>(Xi l7 (s0_.2.length:Int)).bind fun x8=>some (.inl ((IntKind.i64.wrap (s0_.1+1)),(s0_.2++[y6])))) (some (.inr s0_.2))
noncomputable def Jc (a0:Zu) (a2:(List Zb)):Option Zu :=
 (cond (decide (0 < a0.kept)) ((Xo (⟨a0.out,a0.kept,a0.gone,a0.come⟩:Zu)).bind fun y2=>some (y2.out,y2.gone,y2.come,y2.kept)) (some (a0.out,a0.gone,a0.come,a0.kept))).bind fun (z1:((List Zh)×(List Zb)×(List Zb)×Int))=>(Z8 (Qm a2) (0,z1.2.1)).bind fun (z11:(List Zb))=>some (⟨z1.1,z1.2.2.2,z11,z1.2.2.1⟩:Zu)
noncomputable def Qn (a2:(List Zb)) (s0_:(Int×(List Zb))):Option ((Int×(List Zb)) ⊕ (List Zb)) :=
 cond (decide (s0_.1 < (a2.length:Int))) ((Xi a2 s0_.1).bind fun x5=>(U1 x5).bind fun y6=>(V1 56 s0_.2 ([(⟨0,[],[]⟩:Zb)]:List Zb)).bind fun l7=>(Xi l7 (s0_.2.length:Int)).bind fun x8=>some (.inl ((IntKind.i64.wrap (s0_.1+1)),(s0_.2++[y6])))) (some (.inr s0_.2))
noncomputable def Jd (a0:Zu) (a2:(List Zb)):Option Zu :=
 (cond (decide (0 < a0.kept)) ((Xo (⟨a0.out,a0.kept,a0.gone,a0.come⟩:Zu)).bind fun y2=>some (y2.out,y2.gone,y2.come,y2.kept)) (some (a0.out,a0.gone,a0.come,a0.kept))).bind fun (z1:((List Zh)×(List Zb)×(List Zb)×Int))=>(Z8 (Qn a2) (0,z1.2.2.1)).bind fun (z11:(List Zb))=>some (⟨z1.1,z1.2.2.2,z1.2.1,z11⟩:Zu)
noncomputable def Zch (a0:Int) (a1:Zc):Option Bool :=
 some (cond (a1.Kind == 0) true (cond (cond (a0 == 9) (a1.Kind == 2) false) ((IntKind.i64.wrap ((a1.Words.length:Int)+(a1.Kids.length:Int))) == 0) false))
noncomputable def Jp (a0:Zu) (a1:Int) (a2:Zc):Option Zu :=
 (Zch a1 a2).bind fun y2=>cond y2 ((Jq (⟨a0.out,a0.kept,a0.gone,a0.come⟩:Zu) 1).bind fun y4=>some (⟨y4.out,y4.kept,y4.gone,y4.come⟩:Zu)) ((Xo (⟨a0.out,a0.kept,a0.gone,a0.come⟩:Zu)).bind fun y6=>(V1 240 y6.out ([(⟨0,0,[],⟨0,⟨0,[],[]⟩,⟨0,[],[]⟩,[],[],0,[]⟩⟩:Zh)]:List Zh)).bind fun l7=>(Xi l7 (y6.out.length:Int)).bind fun x8=>some (⟨(y6.out++[(⟨3,0,[],a2⟩:Zh)]),y6.kept,y6.gone,y6.come⟩:Zu))
noncomputable def Uo (X0:(Zc→Option Zc)) (a0:Zc) (s0_:(Int×(List Zd))):Option ((Int×(List Zd)) ⊕ (List Zd)) :=
 cond (decide (s0_.1 < (a0.Kids.length:Int))) ((Xi a0.Kids s0_.1).bind fun x8=>(X0 x8.E).bind fun y9=>(V1 208 s0_.2 ([(⟨x8.At,y9⟩:Zd)]:List Zd)).bind fun l10=>some (.inl ((IntKind.i64.wrap (s0_.1+1)),l10))) (some (.inr s0_.2))
noncomputable def Zce (X0:(Zc→Option Zc)) (Kv:(Int→(List Zh)→Option (List Zh))) (a0:Zc):Option Zc :=
 cond (a0.Kind == 1) ((U1 a0.Old).bind fun y3=>(U1 a0.New).bind fun y4=>some (⟨1,y3,y4,[],[],0,[]⟩:Zc)) (cond (a0.Kind == 2) ((Qk a0.Words).bind fun y6=>(Z8 (Uo X0 a0) (0,([]:List Zd))).bind fun (z12:(List Zd))=>some (⟨2,⟨0,[],[]⟩,⟨0,[],[]⟩,y6,z12,0,[]⟩:Zc)) (cond (a0.Kind == 3) ((Kv a0.List_ a0.Ops).bind fun y14=>some (⟨3,⟨0,[],[]⟩,⟨0,[],[]⟩,[],[],a0.List_,y14⟩:Zc)) (some (⟨0,⟨0,[],[]⟩,⟨0,[],[]⟩,[],[],0,[]⟩:Zc))))
noncomputable def Vc (X0:(Zc→Option Zc)) (a0:Int) (a1:(List Zh)) (s0_:(Int×Int×(List Zh)×(List Zb)×(List Zb))):Option ((Int×Int×(List Zh)×(List Zb)×(List Zb)) ⊕ (Int×(List Zh)×(List Zb)×(List Zb))) :=
 cond (decide (s0_.1 < (a1.length:Int))) (((Xi a1 s0_.1).bind fun x3=>cond (x3.Kind == 0) ((Jq (⟨s0_.2.2.1,s0_.2.1,s0_.2.2.2.1,s0_.2.2.2.2⟩:Zu) x3.N).bind fun y4=>some (y4.kept,y4.out,y4.gone,y4.come)) (cond (x3.Kind == 1) ((Jc (⟨s0_.2.2.1,s0_.2.1,s0_.2.2.2.1,s0_.2.2.2.2⟩:Zu) x3.L).bind fun y5=>some (y5.kept,y5.out,y5.gone,y5.come)) (cond (x3.Kind == 2) ((Jd (⟨s0_.2.2.1,s0_.2.1,s0_.2.2.2.1,s0_.2.2.2.2⟩:Zu) x3.L).bind fun y6=>some (y6.kept,y6.out,y6.gone,y6.come)) (cond (x3.Kind == 3) ((X0 x3.E).bind fun y7=>(Jp (⟨s0_.2.2.1,s0_.2.1,s0_.2.2.2.1,s0_.2.2.2.2⟩:Zu) a0 y7).bind fun y8=>some (y8.kept,y8.out,y8.gone,y8.come)) (some (s0_.2.1,s0_.2.2.1,s0_.2.2.2.1,s0_.2.2.2.2)))))).bind fun (z1:(Int×(List Zh)×(List Zb)×(List Zb)))=>some (.inl ((IntKind.i64.wrap (s0_.1+1)),z1.1,z1.2.1,z1.2.2.1,z1.2.2.2))) (some (.inr (s0_.2.1,s0_.2.2.1,s0_.2.2.2.1,s0_.2.2.2.2)))
noncomputable def Zbr (X0:(Zc→Option Zc)) (Kv:(Int→(List Zh)→Option (List Zh))) (a0:Int) (a1:(List Zh)):Option (List Zh) :=
 (Z8 (Vc X0 a0 a1) (0,0,([]:List Zh),([]:List Zb),([]:List Zb))).bind fun (z14:(Int×(List Zh)×(List Zb)×(List Zb)))=>(Xo (⟨z14.2.1,z14.1,z14.2.2.1,z14.2.2.2⟩:Zu)).bind fun y16=>some y16.out
noncomputable def Xw:Nat→((Zc→Option Zc)×(Int→(List Zh)→Option (List Zh)))
 | 0=>((fun _=>none),(fun _ _=>none))
 | k+1=>(Zce ((Xw k).1) ((Xw k).2),Zbr ((Xw k).1) ((Xw k).2))
noncomputable def Zei (a0:Zc):Option Zc:=lim fun k=>(Xw k).1 a0
noncomputable def Zeh (a0:Zc):Option Zc :=
 (Zik a0).bind fun y3=>(Zei y3).bind fun y4=>some y4
noncomputable def Qw (a0:Zj):Option Int :=
 some a0.At
noncomputable def Us (a0:Zj) (a1:Zj):Option (Zj×Bool) :=
 (Zas (IntKind.u8.wrap (Zdt .u8 a0.Mask a1.Mask))).bind fun y2=>cond ((IntKind.u64.wrap (Zdt .u64 (IntKind.u64.wrap (Zkd .u64 a0.New a1.Old)) y2)) != 0) (some ((⟨0,0,0,0⟩:Zj),false)) ((Zct a1.Old a0.Old a0.Mask).bind fun y5=>(Zct a0.New a1.New a1.Mask).bind fun y6=>some ((⟨a0.At,(IntKind.u8.wrap (Zk1 .u8 a0.Mask a1.Mask)),y5,y6⟩:Zj),true))
noncomputable def Kj (s0_:((List Zj)×(List Zj)×(List Zj))):Option (((List Zj)×(List Zj)×(List Zj)) ⊕ (Unit ⊕ ((List Zj)×(List Zj)×(List Zj)))) :=
 cond (cond (decide (0 < (s0_.1.length:Int))) (decide (0 < (s0_.2.1.length:Int))) false) ((Xi s0_.1 0).bind fun x5=>(Qw x5).bind fun y6=>(Xi s0_.2.1 0).bind fun x7=>(Qw x7).bind fun y8=>cond (decide (y6 < y8)) ((Xi s0_.1 0).bind fun x9=>(G9 s0_.1 1 (s0_.1.length:Int)).bind fun l10=>(V1 32 s0_.2.2 ([x9]:List Zj)).bind fun l11=>some (.inl (l10,s0_.2.1,l11))) ((Xi s0_.2.1 0).bind fun x16=>(Qw x16).bind fun y17=>(Xi s0_.1 0).bind fun x18=>(Qw x18).bind fun y19=>cond (decide (y17 < y19)) ((Xi s0_.2.1 0).bind fun x20=>(G9 s0_.2.1 1 (s0_.2.1.length:Int)).bind fun l21=>(V1 32 s0_.2.2 ([x20]:List Zj)).bind fun l22=>some (.inl (s0_.1,l21,l22))) ((Xi s0_.1 0).bind fun x26=>(Xi s0_.2.1 0).bind fun x27=>(Us x26 x27).bind fun y28=>cond (!y28.2) (some (.inr (.inl ()))) ((G9 s0_.1 1 (s0_.1.length:Int)).bind fun l29=>(G9 s0_.2.1 1 (s0_.2.1.length:Int)).bind fun l30=>(V1 32 s0_.2.2 ([y28.1]:List Zj)).bind fun l31=>some (.inl (l29,l30,l31)))))) (some (.inr (.inr (s0_.1,s0_.2.1,s0_.2.2))))
noncomputable def Qv (a0:(List Zj)) (a1:(List Zj)):Option ((List Zj)×Bool) :=
 (Z8 (Kj) (a0,a1,([]:List Zj))).bind fun (z36:(Unit ⊕ ((List Zj)×(List Zj)×(List Zj))))=>match z36 with | .inl z36=>some (([]:(List Zj)),false) | .inr z36=>(V1 32 z36.2.2 z36.1).bind fun l39=>(V1 32 l39 z36.2.1).bind fun l40=>some (l40,true)
noncomputable def Qx (a0:Zd):Option Int :=
 some a0.At
noncomputable def Zh4 (a0:Zh):Option Int :=
 cond (a0.Kind == 0) (some a0.N) ((cond (a0.Kind == 1) (some (a0.Kind == 1)) (some (a0.Kind == 2))).bind fun (z1:Bool)=>cond z1 (some (a0.L.length:Int)) (some 1))
structure Ys where
 left:(List Zh)
 gone:Int
noncomputable def Zdh (s0_:((List Zh)×Int)):Option (((List Zh)×Int) ⊕ ((Int×Int×(List Zh)×Int) ⊕ ((List Zh)×Int))) :=
 cond (decide (0 < (s0_.1.length:Int))) ((Xi s0_.1 0).bind fun x3=>(Zh4 x3).bind fun y4=>cond (decide (0 < (IntKind.i64.wrap (y4 - s0_.2)))) ((Xi s0_.1 0).bind fun x7=>some (.inr (.inl (x7.Kind,(IntKind.i64.wrap (y4 - s0_.2)),s0_.1,s0_.2)))) ((G9 s0_.1 1 (s0_.1.length:Int)).bind fun l9=>some (.inl (l9,0)))) (some (.inr (.inr (s0_.1,s0_.2))))
noncomputable def X5 (a0:Ys):Option (Int×Int×Ys) :=
 (Z8 (Zdh) (a0.left,a0.gone)).bind fun (z12:((Int×Int×(List Zh)×Int) ⊕ ((List Zh)×Int)))=>match z12 with | .inl z12=>some (z12.1,z12.2.1,(⟨z12.2.2.1,z12.2.2.2⟩:Ys)) | .inr z12=>some (0,0,(⟨z12.1,z12.2⟩:Ys))
noncomputable def J5 (a0:Ys) (a1:Int):Option (Zh×Ys) :=
 (Xi a0.left 0).bind fun x2=>(cond (x2.Kind == 0) (some (a1,x2.L)) ((cond (x2.Kind == 1) (some (x2.Kind == 1)) (some (x2.Kind == 2))).bind fun (z4:Bool)=>cond z4 ((G9 x2.L a0.gone (IntKind.i64.wrap (a0.gone+a1))).bind fun l6=>some (x2.N,l6)) (some (x2.N,x2.L)))).bind fun (z3:(Int×(List Zb)))=>some ((⟨x2.Kind,z3.1,z3.2,x2.E⟩:Zh),(⟨a0.left,(IntKind.i64.wrap (a0.gone+a1))⟩:Ys))
structure Zz where
 Of:Int
 P:Zh
 Q:Zh
noncomputable def K2 (a2:Int) (a3:Int) (s0_:((List Zh)×Int×(List Zh)×Int×(List Zz))):Option (((List Zh)×Int×(List Zh)×Int×(List Zz)) ⊕ ((List Zz)×Bool)) :=
 (X5 (⟨s0_.1,s0_.2.1⟩:Ys)).bind fun y2=>(X5 (⟨s0_.2.2.1,s0_.2.2.2.1⟩:Ys)).bind fun y4=>cond (cond (decide (0 < y2.2.1)) (y2.1 == a2) false) ((J5 y2.2.2 y2.2.1).bind fun y5=>(V1 488 s0_.2.2.2.2 ([(⟨1,y5.1,⟨0,0,[],⟨0,⟨0,[],[]⟩,⟨0,[],[]⟩,[],[],0,[]⟩⟩⟩:Zz)]:List Zz)).bind fun l6=>some (.inl (y5.2.left,y5.2.gone,y4.2.2.left,y4.2.2.gone,l6))) (cond (cond (decide (0 < y4.2.1)) (y4.1 == a3) false) ((J5 y4.2.2 y4.2.1).bind fun y7=>(V1 488 s0_.2.2.2.2 ([(⟨2,⟨0,0,[],⟨0,⟨0,[],[]⟩,⟨0,[],[]⟩,[],[],0,[]⟩⟩,y7.1⟩:Zz)]:List Zz)).bind fun l8=>some (.inl (y2.2.2.left,y2.2.2.gone,y7.2.left,y7.2.gone,l8))) (cond (cond (y2.2.1 == 0) (y4.2.1 == 0) false) (some (.inr (s0_.2.2.2.2,true))) (cond (cond (y2.2.1 == 0) true (y4.2.1 == 0)) (some (.inr (([]:(List Zz)),false))) ((J5 y2.2.2 (if y4.2.1 < y2.2.1 then y4.2.1 else y2.2.1)).bind fun y9=>(J5 y4.2.2 (if y4.2.1 < y2.2.1 then y4.2.1 else y2.2.1)).bind fun y10=>(V1 488 s0_.2.2.2.2 ([(⟨0,y9.1,y10.1⟩:Zz)]:List Zz)).bind fun l11=>some (.inl (y9.2.left,y9.2.gone,y10.2.left,y10.2.gone,l11))))))
noncomputable def Zf2 (a0:(List Zh)) (a1:(List Zh)) (a2:Int) (a3:Int):Option ((List Zz)×Bool) :=
 (Z8 (K2 a2 a3) (a0,0,a1,0,([]:List Zz))).bind fun (z16:((List Zz)×Bool))=>some (z16.1,z16.2)
noncomputable def Zdg (a0:(List Zh)) (a1:(List Zh)):Option ((List Zz)×Bool) :=
 (Zf2 a0 a1 1 2).bind fun y2=>some (y2.1,y2.2)
noncomputable def Zfq (Yj:(Zc→Zc→Option (Zc×Bool))) (Z3:(Zc→Zc→Option (Zc×Bool))) (Ye:(Zc→Zc→Option (Zc×Bool))) (Zo:((List Zd)→(List Zd)→Option ((List Zd)×Bool))) (Zx:(Zd→Zd→Option (Zd×Bool))) (Ya:(Zz→Option ((List Zh)×Bool))) (a0:Zc) (a1:Zc):Option (Zc×Bool) :=
 cond (a0.Kind == 0) (some (a1,true)) (cond (a1.Kind == 0) (some (a0,true)) (cond (a0.Kind == 1) ((Zbv a1 a0.New).bind fun y2=>some ((⟨1,a0.Old,y2.1,[],[],0,[]⟩:Zc),y2.2)) (cond (a1.Kind == 1) ((Zeh a0).bind fun y5=>(Zbv y5 a1.Old).bind fun y6=>some ((⟨1,y6.1,a1.New,[],[],0,[]⟩:Zc),y6.2)) (cond (cond (a0.Kind == 2) (a1.Kind == 2) false) ((Z3 a0 a1).bind fun y8=>some (y8.1,y8.2)) (cond (cond (cond (a0.Kind == 3) (a1.Kind == 3) false) (a0.List_ == a1.List_) false) ((Ye a0 a1).bind fun y10=>some (y10.1,y10.2)) (some ((⟨0,⟨0,[],[]⟩,⟨0,[],[]⟩,[],[],0,[]⟩:Zc),false)))))))
noncomputable def Zaj (Yj:(Zc→Zc→Option (Zc×Bool))) (Z3:(Zc→Zc→Option (Zc×Bool))) (Ye:(Zc→Zc→Option (Zc×Bool))) (Zo:((List Zd)→(List Zd)→Option ((List Zd)×Bool))) (Zx:(Zd→Zd→Option (Zd×Bool))) (Ya:(Zz→Option ((List Zh)×Bool))) (a0:Zc) (a1:Zc):Option (Zc×Bool) :=
 (Qv a0.Words a1.Words).bind fun y2=>(Zo a0.Kids a1.Kids).bind fun y4=>some ((⟨2,⟨0,[],[]⟩,⟨0,[],[]⟩,y2.1,y4.1,0,[]⟩:Zc),(cond y2.2 y4.2 false))
noncomputable def Kl (Ya:(Zz→Option ((List Zh)×Bool))) (y2:((List Zz)×Bool)) (s0_:(Int×(List Zh))):Option ((Int×(List Zh)) ⊕ (Unit ⊕ (List Zh))) :=
 cond (decide (s0_.1 < (y2.1.length:Int))) ((Xi y2.1 s0_.1).bind fun x4=>(Ya x4).bind fun y6=>cond (!y6.2) (some (.inr (.inl ()))) ((V1 240 s0_.2 y6.1).bind fun l7=>some (.inl ((IntKind.i64.wrap (s0_.1+1)),l7)))) (some (.inr (.inr s0_.2)))
noncomputable def Ze3 (Yj:(Zc→Zc→Option (Zc×Bool))) (Z3:(Zc→Zc→Option (Zc×Bool))) (Ye:(Zc→Zc→Option (Zc×Bool))) (Zo:((List Zd)→(List Zd)→Option ((List Zd)×Bool))) (Zx:(Zd→Zd→Option (Zd×Bool))) (Ya:(Zz→Option ((List Zh)×Bool))) (a0:Zc) (a1:Zc):Option (Zc×Bool) :=
 (Zdg a0.Ops a1.Ops).bind fun y2=>cond (!y2.2) (some ((⟨0,⟨0,[],[]⟩,⟨0,[],[]⟩,[],[],0,[]⟩:Zc),false)) ((Z8 (Kl Ya y2) (0,([]:List Zh))).bind fun (z10:(Unit ⊕ (List Zh)))=>match z10 with | .inl z10=>some ((⟨0,⟨0,[],[]⟩,⟨0,[],[]⟩,[],[],0,[]⟩:Zc),false) | .inr z10=>some ((⟨3,⟨0,[],[]⟩,⟨0,[],[]⟩,[],[],a0.List_,z10⟩:Zc),true))
noncomputable def Ku (Zx:(Zd→Zd→Option (Zd×Bool))) (s0_:((List Zd)×(List Zd)×(List Zd))):Option (((List Zd)×(List Zd)×(List Zd)) ⊕ (Unit ⊕ ((List Zd)×(List Zd)×(List Zd)))) :=
 cond (cond (decide (0 < (s0_.1.length:Int))) (decide (0 < (s0_.2.1.length:Int))) false) ((Xi s0_.1 0).bind fun x5=>(Qx x5).bind fun y6=>(Xi s0_.2.1 0).bind fun x7=>(Qx x7).bind fun y8=>cond (decide (y6 < y8)) ((Xi s0_.1 0).bind fun x9=>(G9 s0_.1 1 (s0_.1.length:Int)).bind fun l10=>(V1 208 s0_.2.2 ([x9]:List Zd)).bind fun l11=>some (.inl (l10,s0_.2.1,l11))) ((Xi s0_.2.1 0).bind fun x16=>(Qx x16).bind fun y17=>(Xi s0_.1 0).bind fun x18=>(Qx x18).bind fun y19=>cond (decide (y17 < y19)) ((Xi s0_.2.1 0).bind fun x20=>(G9 s0_.2.1 1 (s0_.2.1.length:Int)).bind fun l21=>(V1 208 s0_.2.2 ([x20]:List Zd)).bind fun l22=>some (.inl (s0_.1,l21,l22))) ((Xi s0_.1 0).bind fun x26=>(Xi s0_.2.1 0).bind fun x27=>(Zx x26 x27).bind fun y28=>cond (!y28.2) (some (.inr (.inl ()))) ((G9 s0_.1 1 (s0_.1.length:Int)).bind fun l29=>(G9 s0_.2.1 1 (s0_.2.1.length:Int)).bind fun l30=>(V1 208 s0_.2.2 ([y28.1]:List Zd)).bind fun l31=>some (.inl (l29,l30,l31)))))) (some (.inr (.inr (s0_.1,s0_.2.1,s0_.2.2))))
noncomputable def Q3 (Yj:(Zc→Zc→Option (Zc×Bool))) (Z3:(Zc→Zc→Option (Zc×Bool))) (Ye:(Zc→Zc→Option (Zc×Bool))) (Zo:((List Zd)→(List Zd)→Option ((List Zd)×Bool))) (Zx:(Zd→Zd→Option (Zd×Bool))) (Ya:(Zz→Option ((List Zh)×Bool))) (a0:(List Zd)) (a1:(List Zd)):Option ((List Zd)×Bool) :=
 (Z8 (Ku Zx) (a0,a1,([]:List Zd))).bind fun (z36:(Unit ⊕ ((List Zd)×(List Zd)×(List Zd))))=>match z36 with | .inl z36=>some (([]:(List Zd)),false) | .inr z36=>(V1 208 z36.2.2 z36.1).bind fun l39=>(V1 208 l39 z36.2.1).bind fun l40=>some (l40,true)
noncomputable def U8 (Yj:(Zc→Zc→Option (Zc×Bool))) (Z3:(Zc→Zc→Option (Zc×Bool))) (Ye:(Zc→Zc→Option (Zc×Bool))) (Zo:((List Zd)→(List Zd)→Option ((List Zd)×Bool))) (Zx:(Zd→Zd→Option (Zd×Bool))) (Ya:(Zz→Option ((List Zh)×Bool))) (a0:Zd) (a1:Zd):Option (Zd×Bool) :=
 (Yj a0.E a1.E).bind fun y2=>some ((⟨a0.At,y2.1⟩:Zd),y2.2)
noncomputable def Ze4 (Yj:(Zc→Zc→Option (Zc×Bool))) (Z3:(Zc→Zc→Option (Zc×Bool))) (Ye:(Zc→Zc→Option (Zc×Bool))) (Zo:((List Zd)→(List Zd)→Option ((List Zd)×Bool))) (Zx:(Zd→Zd→Option (Zd×Bool))) (Ya:(Zz→Option ((List Zh)×Bool))) (a0:Zz):Option ((List Zh)×Bool) :=
 cond (cond (a0.Of == 1) true (cond (a0.Of == 0) (a0.Q.Kind == 0) false)) (some (([a0.P]:List Zh),true)) (cond (cond (a0.Of == 2) true (a0.P.Kind == 0)) (some (([a0.Q]:List Zh),true)) (cond (cond (a0.P.Kind == 2) (a0.Q.Kind == 1) false) ((Yu a0.P.L a0.Q.L).bind fun y2=>some (([]:(List Zh)),y2)) (cond (a0.P.Kind == 2) ((Xi a0.P.L 0).bind fun x5=>(Zbv a0.Q.E x5).bind fun y6=>some (([(⟨2,0,([y6.1]:List Zb),⟨0,⟨0,[],[]⟩,⟨0,[],[]⟩,[],[],0,[]⟩⟩:Zh)]:List Zh),y6.2)) (cond (a0.Q.Kind == 1) ((Zeh a0.P.E).bind fun y10=>(Xi a0.Q.L 0).bind fun x11=>(Zbv y10 x11).bind fun y12=>some (([(⟨1,0,([y12.1]:List Zb),⟨0,⟨0,[],[]⟩,⟨0,[],[]⟩,[],[],0,[]⟩⟩:Zh)]:List Zh),y12.2)) ((Yj a0.P.E a0.Q.E).bind fun y14=>some (([(⟨3,0,[],y14.1⟩:Zh)]:List Zh),y14.2))))))
noncomputable def Zq:Nat→((Zc→Zc→Option (Zc×Bool))×(Zc→Zc→Option (Zc×Bool))×(Zc→Zc→Option (Zc×Bool))×((List Zd)→(List Zd)→Option ((List Zd)×Bool))×(Zd→Zd→Option (Zd×Bool))×(Zz→Option ((List Zh)×Bool)))
 | 0=>((fun _ _=>none),(fun _ _=>none),(fun _ _=>none),(fun _ _=>none),(fun _ _=>none),(fun _=>none))
 | k+1=>(Zfq ((Zq k).1) ((Zq k).2.1) ((Zq k).2.2.1) ((Zq k).2.2.2.1) ((Zq k).2.2.2.2.1) ((Zq k).2.2.2.2.2),Zaj ((Zq k).1) ((Zq k).2.1) ((Zq k).2.2.1) ((Zq k).2.2.2.1) ((Zq k).2.2.2.2.1) ((Zq k).2.2.2.2.2),Ze3 ((Zq k).1) ((Zq k).2.1) ((Zq k).2.2.1) ((Zq k).2.2.2.1) ((Zq k).2.2.2.2.1) ((Zq k).2.2.2.2.2),Q3 ((Zq k).1) ((Zq k).2.1) ((Zq k).2.2.1) ((Zq k).2.2.2.1) ((Zq k).2.2.2.2.1) ((Zq k).2.2.2.2.2),U8 ((Zq k).1) ((Zq k).2.1) ((Zq k).2.2.1) ((Zq k).2.2.2.1) ((Zq k).2.2.2.2.1) ((Zq k).2.2.2.2.2),Ze4 ((Zq k).1) ((Zq k).2.1) ((Zq k).2.2.1) ((Zq k).2.2.2.1) ((Zq k).2.2.2.2.1) ((Zq k).2.2.2.2.2))
noncomputable def Zf5 (a0:Zc) (a1:Zc):Option (Zc×Bool):=lim fun k=>(Zq k).1 a0 a1
noncomputable def Zdi (a0:Zc) (a1:Zc):Option (Zc×Bool) :=
 (Zf5 a0 a1).bind fun y2=>cond (!y2.2) (some ((⟨0,⟨0,[],[]⟩,⟨0,[],[]⟩,[],[],0,[]⟩:Zc),false)) ((Zei y2.1).bind fun y4=>some (y4,true))
noncomputable def Kp :Option Bool :=
 (Zdi (⟨3,⟨0,[],[]⟩,⟨0,[],[]⟩,[],[],4,([(⟨2,0,([(⟨10,([1]:List Int),[]⟩:Zb)]:List Zb),⟨0,⟨0,[],[]⟩,⟨0,[],[]⟩,[],[],0,[]⟩⟩:Zh),(⟨0,1,[],⟨0,⟨0,[],[]⟩,⟨0,[],[]⟩,[],[],0,[]⟩⟩:Zh)]:List Zh)⟩:Zc) (⟨3,⟨0,[],[]⟩,⟨0,[],[]⟩,[],[],4,([(⟨1,0,([(⟨10,([1]:List Int),[]⟩:Zb)]:List Zb),⟨0,⟨0,[],[]⟩,⟨0,[],[]⟩,[],[],0,[]⟩⟩:Zh),(⟨0,1,[],⟨0,⟨0,[],[]⟩,⟨0,[],[]⟩,[],[],0,[]⟩⟩:Zh)]:List Zh)⟩:Zc)).bind fun y2=>(cond y2.2 (cond (y2.1.Kind == 3) (cond ((y2.1.Ops.length:Int) == 1) ((Xi y2.1.Ops 0).bind fun x12=>cond (x12.Kind == 0) (some (cond (cond (cond (cond y2.2 (y2.1.Kind == 3) false) ((y2.1.Ops.length:Int) == 1) false) (x12.Kind == 0) false) (x12.N == 1) false)) (some false)) (some false)) (some false)) (some false)).bind fun (z7:Bool)=>some z7
noncomputable def Jo (a0:Zj) (a1:Zj) (y25:(Arr Int 8)) (y61:(Arr Int 8)) (y97:(Arr Int 8)) (y133:(Arr Int 8)) (s0_:(Int×Int×Int×(Arr Int 8)×(Arr Int 8))):Option ((Int×Int×Int×(Arr Int 8)×(Arr Int 8)) ⊕ (Unit ⊕ (Int×(Arr Int 8)×(Arr Int 8)))) :=
 cond (decide (s0_.2.2.1 < 8)) (((Ji a0.Mask s0_.2.2.1).bind fun y250=>(Ji a1.Mask s0_.2.2.1).bind fun y251=>(cond y250 (cond y251 ((Xi y61.1 s0_.2.2.1).bind fun x257=>(Xi y97.1 s0_.2.2.1).bind fun x258=>some (cond (cond y250 y251 false) (x257 != x258) false)) (some false)) (some false)).bind fun (z254:Bool)=>cond z254 (some (.inr ())) ((cond (cond y250 true y251) (some (IntKind.i64.wrap (s0_.2.1+s0_.1))) (some s0_.2.1)).bind fun (z261:Int)=>(cond y251 ((Xi y97.1 s0_.2.2.1).bind fun x267=>(Xi s0_.2.2.2.1.1 s0_.2.2.1).bind fun x268=>(Xi y133.1 s0_.2.2.1).bind fun x270=>(Xi s0_.2.2.2.2.1 s0_.2.2.1).bind fun x271=>some ((Arr.put s0_.2.2.2.1 s0_.2.2.1 x267),(Arr.put s0_.2.2.2.2 s0_.2.2.1 x270))) (some (s0_.2.2.2.1,s0_.2.2.2.2))).bind fun (z263:((Arr Int 8)×(Arr Int 8)))=>(cond y250 ((Xi y25.1 s0_.2.2.1).bind fun x275=>(Xi z263.1.1 s0_.2.2.1).bind fun x276=>some (Arr.put z263.1 s0_.2.2.1 x275)) (some z263.1)).bind fun (z274:(Arr Int 8))=>cond (cond y250 (!y251) false) ((Xi y61.1 s0_.2.2.1).bind fun x279=>(Xi z263.2.1 s0_.2.2.1).bind fun x280=>some (.inl (z261,z274,(Arr.put z263.2 s0_.2.2.1 x279)))) (some (.inl (z261,z274,z263.2))))).bind fun (z247:((Int×(Arr Int 8)×(Arr Int 8)) ⊕ Unit))=>match z247 with | .inl z247=>some (.inl ((IntKind.i64.wrap (2 * s0_.1)),z247.1,(IntKind.i64.wrap (s0_.2.2.1+1)),z247.2.1,z247.2.2)) | .inr z247=>some (.inr (.inl ()))) (some (.inr (.inr (s0_.2.1,s0_.2.2.2.1,s0_.2.2.2.2))))
noncomputable def V7 (a0:Zj) (a1:Zj):Option (Zj×Bool) :=
 (Xz a0.Old).bind fun y25=>(Xz a0.New).bind fun y61=>(Xz a1.Old).bind fun y97=>(Xz a1.New).bind fun y133=>((some (⟨[0,0,0,0,0,0,0,0],rfl⟩:(Arr Int 8)))).bind fun y145=>((some (⟨[0,0,0,0,0,0,0,0],rfl⟩:(Arr Int 8)))).bind fun y244=>(Z8 (Jo a0 a1 y25 y61 y97 y133) (1,0,0,y244,y244)).bind fun (z285:(Unit ⊕ (Int×(Arr Int 8)×(Arr Int 8))))=>match z285 with | .inl z285=>some ((⟨0,0,0,0⟩:Zj),false) | .inr z285=>(J9 z285.2.1.1 0).bind fun y291=>(J9 z285.2.2.1 0).bind fun y297=>some ((⟨a0.At,(IntKind.u8.wrap z285.1),y291,y297⟩:Zj),true)
noncomputable def Ke (a0:Zj) (a1:Zj):Option Bool :=
 ((Gc (⟨2,⟨0,[],[]⟩,⟨0,[],[]⟩,([a0]:List Zj),[],0,[]⟩:Zc) 64).bind fun y6=>cond y6 ((Gc (⟨2,⟨0,[],[]⟩,⟨0,[],[]⟩,([(⟨a0.At,a1.Mask,a1.Old,a1.New⟩:Zj)]:List Zj),[],0,[]⟩:Zc) 64).bind fun y7=>some (cond (!y6) true (!y7))) (some true)).bind fun (z3:Bool)=>cond z3 ((Kp).bind fun y10=>some y10) ((Us a0 (⟨a0.At,a1.Mask,a1.Old,a1.New⟩:Zj)).bind fun y12=>(V7 a0 (⟨a0.At,a1.Mask,a1.Old,a1.New⟩:Zj)).bind fun y14=>(cond (y12.2 == y14.2) (cond ((y12.1.At == y14.1.At) && ((y12.1.Mask == y14.1.Mask) && ((y12.1.Old == y14.1.Old) && (y12.1.New == y14.1.New)))) ((Kp).bind fun y18=>some (cond (cond (y12.2 == y14.2) ((y12.1.At == y14.1.At) && ((y12.1.Mask == y14.1.Mask) && ((y12.1.Old == y14.1.Old) && (y12.1.New == y14.1.New)))) false) y18 false)) (some false)) (some false)).bind fun (z16:Bool)=>some z16)
mutual
def Uf:Zb→List G
 | ⟨f0,f1,f2⟩=>[.val (.int .i64 f0),.sl f1.length (fl (eI .u64) f1),.sl f2.length (Ug f2)]
def Ug:List Zb→List G
 | []=>[]
 | x::xs=>Uf x++Ug xs
end
theorem Zhe:∀ xs,Ug xs=fl Uf xs
 | []=>by simp [Ug,fl]
 | x::xs=>by rw [Ug,V6,Zhe xs]
def Za (x:Zb):List G:=[.val (.int .i64 x.Kind),.sl x.Words.length (fl (eI .u64) x.Words),.sl x.Kids.length (fl Uf x.Kids)]
theorem Xf:Uf=Za:=by
 funext x
 obtain ⟨_,_,_⟩:=x
 simp only [Uf,Zhe,Za,List.cons_append,List.nil_append,List.append_nil]
mutual
theorem Zgd:∀ x,G.pures (Uf x)=true
 | ⟨f0,f1,f2⟩=>by simp [Uf,eP,Kf,eI,eB,eS,eL,G.pures,G.pure,Gs,Yi,Zin f2]
theorem Zin:∀ xs,G.pures (Ug xs)=true
 | []=>rfl
 | x::xs=>by simp [Ug,Gs,Zgd x,Zin xs]
end
theorem Zge:∀ x,G.pures (Za x)=true:=fun x=>by rw [← Xf];exact Zgd x
theorem Js:∀ x,G.pures ((eI .u64) x)=true:=fun x=>by simp [eI,eB,eS,eL,eP,G.pures,G.pure,Yi,Kf,Xf]
theorem Zlp {O O':Objs} {n:Nat} (xs:List Int):Uy O O' n (fl (eI .u64) xs) (fl (eI .u64) xs):=Zcl (Yi Js xs)
theorem Zlo {O O':Objs} {n:Nat} (xs:List Int) (b b':List G):Uy O O' n (fl (eI .u64) xs++b) (fl (eI .u64) xs++b')=Uy O O' n b b':=Zbn b b' _ (Yi Js xs)
theorem Zkz (xs:List Int):(fl (eI .u64) xs).length=xs.length * 1:=J4 (f:=(eI .u64)) (k:=1) (fun _=>rfl) xs
theorem Zk8 (xs:List Int):(fl (eI .u64) xs).all G.one=true:=Vm (fun x=>by simp [eI,eB,eS,eL,eP,Zd8,G.one,Value.oneCell']) xs
theorem Zlq {O O':Objs} {n:Nat} (x:Option Int):wk O O' n (gP (eI .u64) x) (gP (eI .u64) x)=True:=Zkf Js x
theorem Zjs {k:Nat} (x:Option Int):(gP (eI .u64) x).under k=true:=Zbd Js k x
theorem Zjm {ρ:Nat→Nat} (xs:List Int):G.rens ρ (fl (eI .u64) xs)=fl (eI .u64) xs:=J7 ρ _ (Yi Js xs)
theorem Zjl {ρ:Nat→Nat} (x:Option Int):(gP (eI .u64) x).ren ρ=gP (eI .u64) x:=Gp ρ _ (Kf Js x)
theorem Zlm {k:Nat} (xs:List Int):G.unders k (fl (eI .u64) xs)=true:=Xy _ _ (Yi Js xs)
theorem Y9:∀ x,G.pures (Za x)=true:=fun x=>by rw [← Xf];exact Zgd x
theorem Zee {O O':Objs} {n:Nat} (xs:List Zb):Uy O O' n (fl Za xs) (fl Za xs):=Zcl (Yi Y9 xs)
theorem Zed {O O':Objs} {n:Nat} (xs:List Zb) (b b':List G):Uy O O' n (fl Za xs++b) (fl Za xs++b')=Uy O O' n b b':=Zbn b b' _ (Yi Y9 xs)
theorem Zd0 (xs:List Zb):(fl Za xs).length=xs.length * 3:=J4 (f:=Za) (k:=3) (fun _=>rfl) xs
theorem Zd7 (xs:List Zb):(fl Za xs).all G.one=true:=Vm (fun x=>by simp [eI,eB,eS,eL,eP,Zd8,G.one,Value.oneCell',Za]) xs
theorem Zef {O O':Objs} {n:Nat} (x:Option Zb):wk O O' n (gP Za x) (gP Za x)=True:=Zkf Y9 x
theorem Zdr {k:Nat} (x:Option Zb):(gP Za x).under k=true:=Zbd Y9 k x
theorem Zdm {ρ:Nat→Nat} (xs:List Zb):G.rens ρ (fl Za xs)=fl Za xs:=J7 ρ _ (Yi Y9 xs)
theorem Zdl {ρ:Nat→Nat} (x:Option Zb):(gP Za x).ren ρ=gP Za x:=Gp ρ _ (Kf Y9 x)
theorem Zec {k:Nat} (xs:List Zb):G.unders k (fl Za xs)=true:=Xy _ _ (Yi Y9 xs)
theorem Vx:∀ x,G.pures ((eI .u8) x)=true:=fun x=>by simp [eI,eB,eS,eL,eP,G.pures,G.pure,Yi,Kf,Js,Y9,Xf]
theorem Zn6 {O O':Objs} {n:Nat} (xs:List Int):Uy O O' n (fl (eI .u8) xs) (fl (eI .u8) xs):=Zcl (Yi Vx xs)
theorem Zn5 {O O':Objs} {n:Nat} (xs:List Int) (b b':List G):Uy O O' n (fl (eI .u8) xs++b) (fl (eI .u8) xs++b')=Uy O O' n b b':=Zbn b b' _ (Yi Vx xs)
theorem Zm9 (xs:List Int):(fl (eI .u8) xs).length=xs.length * 1:=J4 (f:=(eI .u8)) (k:=1) (fun _=>rfl) xs
theorem Zni (xs:List Int):(fl (eI .u8) xs).all G.one=true:=Vm (fun x=>by simp [eI,eB,eS,eL,eP,Zd8,G.one,Value.oneCell']) xs
theorem Zn7 {O O':Objs} {n:Nat} (x:Option Int):wk O O' n (gP (eI .u8) x) (gP (eI .u8) x)=True:=Zkf Vx x
theorem Zln {k:Nat} (x:Option Int):(gP (eI .u8) x).under k=true:=Zbd Vx k x
theorem Zlh {ρ:Nat→Nat} (xs:List Int):G.rens ρ (fl (eI .u8) xs)=fl (eI .u8) xs:=J7 ρ _ (Yi Vx xs)
theorem Zlg {ρ:Nat→Nat} (x:Option Int):(gP (eI .u8) x).ren ρ=gP (eI .u8) x:=Gp ρ _ (Kf Vx x)
theorem Zn1 {k:Nat} (xs:List Int):G.unders k (fl (eI .u8) xs)=true:=Xy _ _ (Yi Vx xs)
def Zf (x:Zj):List G:=[.val (.int .i64 x.At),.val (.int .u8 x.Mask),.val (.int .u64 x.Old),.val (.int .u64 x.New)]
mutual
def Jx:Zc→List G
 | ⟨f0,f1,f2,f3,f4,f5,f6⟩=>[.val (.int .i64 f0),.val (.int .i64 f1.Kind),.sl f1.Words.length (fl (eI .u64) f1.Words),.sl f1.Kids.length (fl Za f1.Kids),.val (.int .i64 f2.Kind),.sl f2.Words.length (fl (eI .u64) f2.Words),.sl f2.Kids.length (fl Za f2.Kids),.sl f3.length (fl Zf f3),.sl f4.length (Km f4),.val (.int .i64 f5),.sl f6.length (Zak f6)]
def Gq:List Zc→List G
 | []=>[]
 | x::xs=>Jx x++Gq xs
def Kw:Zh→List G
 | ⟨f0,f1,f2,f3⟩=>[.val (.int .i64 f0),.val (.int .i64 f1),.sl f2.length (fl Za f2)]++Jx f3
def Zak:List Zh→List G
 | []=>[]
 | x::xs=>Kw x++Zak xs
def X7:Zd→List G
 | ⟨f0,f1⟩=>[.val (.int .i64 f0)]++Jx f1
def Km:List Zd→List G
 | []=>[]
 | x::xs=>X7 x++Km xs
end
theorem Zbs:∀ xs,Gq xs=fl Jx xs
 | []=>by simp [Gq,fl]
 | x::xs=>by rw [Gq,V6,Zbs xs]
theorem Zc8:∀ xs,Zak xs=fl Kw xs
 | []=>by simp [Zak,fl]
 | x::xs=>by rw [Zak,V6,Zc8 xs]
theorem Um:∀ xs,Km xs=fl X7 xs
 | []=>by simp [Km,fl]
 | x::xs=>by rw [Km,V6,Um xs]
def Zc7 (x:Zc):List G:=[.val (.int .i64 x.Kind),.val (.int .i64 x.Old.Kind),.sl x.Old.Words.length (fl (eI .u64) x.Old.Words),.sl x.Old.Kids.length (fl Za x.Old.Kids),.val (.int .i64 x.New.Kind),.sl x.New.Words.length (fl (eI .u64) x.New.Words),.sl x.New.Kids.length (fl Za x.New.Kids),.sl x.Words.length (fl Zf x.Words),.sl x.Kids.length (fl X7 x.Kids),.val (.int .i64 x.List_),.sl x.Ops.length (fl Kw x.Ops)]
def Zg (x:Zh):List G:=[.val (.int .i64 x.Kind),.val (.int .i64 x.N),.sl x.L.length (fl Za x.L),.val (.int .i64 x.E.Kind),.val (.int .i64 x.E.Old.Kind),.sl x.E.Old.Words.length (fl (eI .u64) x.E.Old.Words),.sl x.E.Old.Kids.length (fl Za x.E.Old.Kids),.val (.int .i64 x.E.New.Kind),.sl x.E.New.Words.length (fl (eI .u64) x.E.New.Words),.sl x.E.New.Kids.length (fl Za x.E.New.Kids),.sl x.E.Words.length (fl Zf x.E.Words),.sl x.E.Kids.length (fl X7 x.E.Kids),.val (.int .i64 x.E.List_),.sl x.E.Ops.length (fl Kw x.E.Ops)]
def Zi (x:Zd):List G:=[.val (.int .i64 x.At),.val (.int .i64 x.E.Kind),.val (.int .i64 x.E.Old.Kind),.sl x.E.Old.Words.length (fl (eI .u64) x.E.Old.Words),.sl x.E.Old.Kids.length (fl Za x.E.Old.Kids),.val (.int .i64 x.E.New.Kind),.sl x.E.New.Words.length (fl (eI .u64) x.E.New.Words),.sl x.E.New.Kids.length (fl Za x.E.New.Kids),.sl x.E.Words.length (fl Zf x.E.Words),.sl x.E.Kids.length (fl X7 x.E.Kids),.val (.int .i64 x.E.List_),.sl x.E.Ops.length (fl Kw x.E.Ops)]
theorem Jm:Jx=Zc7:=by
 funext x
 obtain ⟨_,_,_,_,_,_,_⟩:=x
 simp only [Jx,Zbs,Kw,Zc8,X7,Um,Zc7,List.cons_append,List.nil_append,List.append_nil]
theorem Jy:Kw=Zg:=by
 funext x
 obtain ⟨_,_,_,⟨_,_,_,_,_,_,_⟩⟩:=x
 simp only [Jx,Zbs,Kw,Zc8,X7,Um,Zg,List.cons_append,List.nil_append,List.append_nil]
theorem X4:X7=Zi:=by
 funext x
 obtain ⟨_,⟨_,_,_,_,_,_,_⟩⟩:=x
 simp only [Jx,Zbs,Kw,Zc8,X7,Um,Zi,List.cons_append,List.nil_append,List.append_nil]
mutual
theorem Zgc:∀ x,G.pures (Jx x)=true
 | ⟨f0,f1,f2,f3,f4,f5,f6⟩=>by simp [Jx,eP,Kf,eI,eB,eS,eL,G.pures,G.pure,Gs,Yi,Zgf f4,Zke f6,Js,Y9,Vx,Zge,Zf]
theorem Zos:∀ xs,G.pures (Gq xs)=true
 | []=>rfl
 | x::xs=>by simp [Gq,Gs,Zgc x,Zos xs]
theorem Zmi:∀ x,G.pures (Kw x)=true
 | ⟨f0,f1,f2,f3⟩=>by simp [Kw,eP,Kf,eI,eB,eS,eL,G.pures,G.pure,Gs,Yi,Zgc f3,Js,Y9,Vx,Zge,Zf]
theorem Zke:∀ xs,G.pures (Zak xs)=true
 | []=>rfl
 | x::xs=>by simp [Zak,Gs,Zmi x,Zke xs]
theorem Zg0:∀ x,G.pures (X7 x)=true
 | ⟨f0,f1⟩=>by simp [X7,eP,Kf,eI,eB,eS,eL,G.pures,G.pure,Gs,Yi,Zgc f1,Js,Y9,Vx,Zge,Zf]
theorem Zgf:∀ xs,G.pures (Km xs)=true
 | []=>rfl
 | x::xs=>by simp [Km,Gs,Zg0 x,Zgf xs]
end
theorem Xc:∀ x,G.pures (Zf x)=true:=fun x=>by simp [eI,eB,eS,eL,eP,G.pures,G.pure,Yi,Kf,Zf,Js,Y9,Vx,Xf,Jm,Jy,X4]
theorem Zbk {O O':Objs} {n:Nat} (xs:List Zj):Uy O O' n (fl Zf xs) (fl Zf xs):=Zcl (Yi Xc xs)
theorem Zbh {O O':Objs} {n:Nat} (xs:List Zj) (b b':List G):Uy O O' n (fl Zf xs++b) (fl Zf xs++b')=Uy O O' n b b':=Zbn b b' _ (Yi Xc xs)
theorem Zap (xs:List Zj):(fl Zf xs).length=xs.length * 4:=J4 (f:=Zf) (k:=4) (fun _=>rfl) xs
theorem Za1 (xs:List Zj):(fl Zf xs).all G.one=true:=Vm (fun x=>by simp [eI,eB,eS,eL,eP,Zd8,G.one,Value.oneCell',Zf]) xs
theorem Zbp {O O':Objs} {n:Nat} (x:Option Zj):wk O O' n (gP Zf x) (gP Zf x)=True:=Zkf Xc x
theorem Zac {k:Nat} (x:Option Zj):(gP Zf x).under k=true:=Zbd Xc k x
theorem G7 {ρ:Nat→Nat} (xs:List Zj):G.rens ρ (fl Zf xs)=fl Zf xs:=J7 ρ _ (Yi Xc xs)
theorem G3 {ρ:Nat→Nat} (x:Option Zj):(gP Zf x).ren ρ=gP Zf x:=Gp ρ _ (Kf Xc x)
theorem Zbb {k:Nat} (xs:List Zj):G.unders k (fl Zf xs)=true:=Xy _ _ (Yi Xc xs)
theorem Xm:∀ x,G.pures (Zi x)=true:=fun x=>by rw [← X4];exact Zg0 x
theorem Zcb {O O':Objs} {n:Nat} (xs:List Zd):Uy O O' n (fl Zi xs) (fl Zi xs):=Zcl (Yi Xm xs)
theorem Zb9 {O O':Objs} {n:Nat} (xs:List Zd) (b b':List G):Uy O O' n (fl Zi xs++b) (fl Zi xs++b')=Uy O O' n b b':=Zbn b b' _ (Yi Xm xs)
theorem Zb1 (xs:List Zd):(fl Zi xs).length=xs.length * 12:=J4 (f:=Zi) (k:=12) (fun _=>rfl) xs
theorem Zb5 (xs:List Zd):(fl Zi xs).all G.one=true:=Vm (fun x=>by simp [eI,eB,eS,eL,eP,Zd8,G.one,Value.oneCell',Zi]) xs
theorem Zcd {O O':Objs} {n:Nat} (x:Option Zd):wk O O' n (gP Zi x) (gP Zi x)=True:=Zkf Xm x
theorem Zbf {k:Nat} (x:Option Zd):(gP Zi x).under k=true:=Zbd Xm k x
theorem Za6 {ρ:Nat→Nat} (xs:List Zd):G.rens ρ (fl Zi xs)=fl Zi xs:=J7 ρ _ (Yi Xm xs)
theorem Za4 {ρ:Nat→Nat} (x:Option Zd):(gP Zi x).ren ρ=gP Zi x:=Gp ρ _ (Kf Xm x)
theorem Zb7 {k:Nat} (xs:List Zd):G.unders k (fl Zi xs)=true:=Xy _ _ (Yi Xm xs)
theorem Je:∀ x,G.pures (Zg x)=true:=fun x=>by rw [← Jy];exact Zmi x
theorem Zgo {O O':Objs} {n:Nat} (xs:List Zh):Uy O O' n (fl Zg xs) (fl Zg xs):=Zcl (Yi Je xs)
theorem Zgn {O O':Objs} {n:Nat} (xs:List Zh) (b b':List G):Uy O O' n (fl Zg xs++b) (fl Zg xs++b')=Uy O O' n b b':=Zbn b b' _ (Yi Je xs)
theorem Zf1 (xs:List Zh):(fl Zg xs).length=xs.length * 14:=J4 (f:=Zg) (k:=14) (fun _=>rfl) xs
theorem Zga (xs:List Zh):(fl Zg xs).all G.one=true:=Vm (fun x=>by simp [eI,eB,eS,eL,eP,Zd8,G.one,Value.oneCell',Zg]) xs
theorem Zgp {O O':Objs} {n:Nat} (x:Option Zh):wk O O' n (gP Zg x) (gP Zg x)=True:=Zkf Je x
theorem Zff {k:Nat} (x:Option Zh):(gP Zg x).under k=true:=Zbd Je k x
theorem Zfd {ρ:Nat→Nat} (xs:List Zh):G.rens ρ (fl Zg xs)=fl Zg xs:=J7 ρ _ (Yi Je xs)
theorem Zfc {ρ:Nat→Nat} (x:Option Zh):(gP Zg x).ren ρ=gP Zg x:=Gp ρ _ (Kf Je x)
theorem Zgl {k:Nat} (xs:List Zh):G.unders k (fl Zg xs)=true:=Xy _ _ (Yi Je xs)
def Ym (x:Zm):List G:=[.sl x.left.length (fl Za x.left),.sl x.out.length (fl Za x.out)]
theorem Xq:∀ x,G.pures (Ym x)=true:=fun x=>by simp [eI,eB,eS,eL,eP,G.pures,G.pure,Yi,Kf,Ym,Js,Y9,Vx,Xc,Xm,Je,Xf,Jm,Jy,X4]
theorem Zbl {O O':Objs} {n:Nat} (xs:List Zm):Uy O O' n (fl Ym xs) (fl Ym xs):=Zcl (Yi Xq xs)
theorem Zbi {O O':Objs} {n:Nat} (xs:List Zm) (b b':List G):Uy O O' n (fl Ym xs++b) (fl Ym xs++b')=Uy O O' n b b':=Zbn b b' _ (Yi Xq xs)
theorem Zaq (xs:List Zm):(fl Ym xs).length=xs.length * 2:=J4 (f:=Ym) (k:=2) (fun _=>rfl) xs
theorem Za2 (xs:List Zm):(fl Ym xs).all G.one=true:=Vm (fun x=>by simp [eI,eB,eS,eL,eP,Zd8,G.one,Value.oneCell',Ym]) xs
theorem Zbq {O O':Objs} {n:Nat} (x:Option Zm):wk O O' n (gP Ym x) (gP Ym x)=True:=Zkf Xq x
theorem Zad {k:Nat} (x:Option Zm):(gP Ym x).under k=true:=Zbd Xq k x
theorem G8 {ρ:Nat→Nat} (xs:List Zm):G.rens ρ (fl Ym xs)=fl Ym xs:=J7 ρ _ (Yi Xq xs)
theorem G4 {ρ:Nat→Nat} (x:Option Zm):(gP Ym x).ren ρ=gP Ym x:=Gp ρ _ (Kf Xq x)
theorem Zbc {k:Nat} (xs:List Zm):G.unders k (fl Ym xs)=true:=Xy _ _ (Yi Xq xs)
def Yk (x:Zu):List G:=[.sl x.out.length (fl Zg x.out),.val (.int .i64 x.kept),.sl x.gone.length (fl Za x.gone),.sl x.come.length (fl Za x.come)]
theorem Xx:∀ x,G.pures (Yk x)=true:=fun x=>by simp [eI,eB,eS,eL,eP,G.pures,G.pure,Yi,Kf,Yk,Js,Y9,Vx,Xc,Xm,Je,Xq,Xf,Jm,Jy,X4]
theorem Zaf {O O':Objs} {n:Nat} (xs:List Zu):Uy O O' n (fl Yk xs) (fl Yk xs):=Zcl (Yi Xx xs)
theorem Zae {O O':Objs} {n:Nat} (xs:List Zu) (b b':List G):Uy O O' n (fl Yk xs++b) (fl Yk xs++b')=Uy O O' n b b':=Zbn b b' _ (Yi Xx xs)
theorem Gv (xs:List Zu):(fl Yk xs).length=xs.length * 4:=J4 (f:=Yk) (k:=4) (fun _=>rfl) xs
theorem Gy (xs:List Zu):(fl Yk xs).all G.one=true:=Vm (fun x=>by simp [eI,eB,eS,eL,eP,Zd8,G.one,Value.oneCell',Yk]) xs
theorem Zag {O O':Objs} {n:Nat} (x:Option Zu):wk O O' n (gP Yk x) (gP Yk x)=True:=Zkf Xx x
theorem Gh {k:Nat} (x:Option Zu):(gP Yk x).under k=true:=Zbd Xx k x
theorem Gg {ρ:Nat→Nat} (xs:List Zu):G.rens ρ (fl Yk xs)=fl Yk xs:=J7 ρ _ (Yi Xx xs)
theorem Gf {ρ:Nat→Nat} (x:Option Zu):(gP Yk x).ren ρ=gP Yk x:=Gp ρ _ (Kf Xx x)
theorem Zaa {k:Nat} (xs:List Zu):G.unders k (fl Yk xs)=true:=Xy _ _ (Yi Xx xs)
def Yl (x:Ys):List G:=[.sl x.left.length (fl Zg x.left),.val (.int .i64 x.gone)]
theorem Qi:∀ x,G.pures (Yl x)=true:=fun x=>by simp [eI,eB,eS,eL,eP,G.pures,G.pure,Yi,Kf,Yl,Js,Y9,Vx,Xc,Xm,Je,Xq,Xx,Xf,Jm,Jy,X4]
theorem Zbj {O O':Objs} {n:Nat} (xs:List Ys):Uy O O' n (fl Yl xs) (fl Yl xs):=Zcl (Yi Qi xs)
theorem Zbg {O O':Objs} {n:Nat} (xs:List Ys) (b b':List G):Uy O O' n (fl Yl xs++b) (fl Yl xs++b')=Uy O O' n b b':=Zbn b b' _ (Yi Qi xs)
theorem Zao (xs:List Ys):(fl Yl xs).length=xs.length * 2:=J4 (f:=Yl) (k:=2) (fun _=>rfl) xs
theorem Za0 (xs:List Ys):(fl Yl xs).all G.one=true:=Vm (fun x=>by simp [eI,eB,eS,eL,eP,Zd8,G.one,Value.oneCell',Yl]) xs
theorem Zbo {O O':Objs} {n:Nat} (x:Option Ys):wk O O' n (gP Yl x) (gP Yl x)=True:=Zkf Qi x
theorem Zab {k:Nat} (x:Option Ys):(gP Yl x).under k=true:=Zbd Qi k x
theorem G5 {ρ:Nat→Nat} (xs:List Ys):G.rens ρ (fl Yl xs)=fl Yl xs:=J7 ρ _ (Yi Qi xs)
theorem G0 {ρ:Nat→Nat} (x:Option Ys):(gP Yl x).ren ρ=gP Yl x:=Gp ρ _ (Kf Qi x)
theorem Zba {k:Nat} (xs:List Ys):G.unders k (fl Yl xs)=true:=Xy _ _ (Yi Qi xs)
def Z4 (x:Zz):List G:=[.val (.int .i64 x.Of),.val (.int .i64 x.P.Kind),.val (.int .i64 x.P.N),.sl x.P.L.length (fl Za x.P.L),.val (.int .i64 x.P.E.Kind),.val (.int .i64 x.P.E.Old.Kind),.sl x.P.E.Old.Words.length (fl (eI .u64) x.P.E.Old.Words),.sl x.P.E.Old.Kids.length (fl Za x.P.E.Old.Kids),.val (.int .i64 x.P.E.New.Kind),.sl x.P.E.New.Words.length (fl (eI .u64) x.P.E.New.Words),.sl x.P.E.New.Kids.length (fl Za x.P.E.New.Kids),.sl x.P.E.Words.length (fl Zf x.P.E.Words),.sl x.P.E.Kids.length (fl Zi x.P.E.Kids),.val (.int .i64 x.P.E.List_),.sl x.P.E.Ops.length (fl Zg x.P.E.Ops),.val (.int .i64 x.Q.Kind),.val (.int .i64 x.Q.N),.sl x.Q.L.length (fl Za x.Q.L),.val (.int .i64 x.Q.E.Kind),.val (.int .i64 x.Q.E.Old.Kind),.sl x.Q.E.Old.Words.length (fl (eI .u64) x.Q.E.Old.Words),.sl x.Q.E.Old.Kids.length (fl Za x.Q.E.Old.Kids),.val (.int .i64 x.Q.E.New.Kind),.sl x.Q.E.New.Words.length (fl (eI .u64) x.Q.E.New.Words),.sl x.Q.E.New.Kids.length (fl Za x.Q.E.New.Kids),.sl x.Q.E.Words.length (fl Zf x.Q.E.Words),.sl x.Q.E.Kids.length (fl Zi x.Q.E.Kids),.val (.int .i64 x.Q.E.List_),.sl x.Q.E.Ops.length (fl Zg x.Q.E.Ops)]
theorem Jl:∀ x,G.pures (Z4 x)=true:=fun x=>by simp [eI,eB,eS,eL,eP,G.pures,G.pure,Yi,Kf,Z4,Js,Y9,Vx,Xc,Xm,Je,Xq,Xx,Qi,Xf,Jm,Jy,X4]
theorem Zca {O O':Objs} {n:Nat} (xs:List Zz):Uy O O' n (fl Z4 xs) (fl Z4 xs):=Zcl (Yi Jl xs)
theorem Zb8 {O O':Objs} {n:Nat} (xs:List Zz) (b b':List G):Uy O O' n (fl Z4 xs++b) (fl Z4 xs++b')=Uy O O' n b b':=Zbn b b' _ (Yi Jl xs)
theorem Zb0 (xs:List Zz):(fl Z4 xs).length=xs.length * 29:=J4 (f:=Z4) (k:=29) (fun _=>rfl) xs
theorem Zb4 (xs:List Zz):(fl Z4 xs).all G.one=true:=Vm (fun x=>by simp [eI,eB,eS,eL,eP,Zd8,G.one,Value.oneCell',Z4]) xs
theorem Zcc {O O':Objs} {n:Nat} (x:Option Zz):wk O O' n (gP Z4 x) (gP Z4 x)=True:=Zkf Jl x
theorem Zbe {k:Nat} (x:Option Zz):(gP Z4 x).under k=true:=Zbd Jl k x
theorem Za5 {ρ:Nat→Nat} (xs:List Zz):G.rens ρ (fl Z4 xs)=fl Z4 xs:=J7 ρ _ (Yi Jl xs)
theorem Za3 {ρ:Nat→Nat} (x:Option Zz):(gP Z4 x).ren ρ=gP Z4 x:=Gp ρ _ (Kf Jl x)
theorem Zb6 {k:Nat} (xs:List Zz):G.unders k (fl Z4 xs)=true:=Xy _ _ (Yi Jl xs)
def J8 (x:Zz):List G:=[.val (.int .i64 x.Of),.val (.int .i64 x.P.Kind),.val (.int .i64 x.P.N),.sl x.P.L.length (fl Za x.P.L),.val (.int .i64 x.P.E.Kind),.val (.int .i64 x.P.E.Old.Kind),.sl x.P.E.Old.Words.length (fl (eI .u64) x.P.E.Old.Words),.sl x.P.E.Old.Kids.length (fl Za x.P.E.Old.Kids),.val (.int .i64 x.P.E.New.Kind),.sl x.P.E.New.Words.length (fl (eI .u64) x.P.E.New.Words),.sl x.P.E.New.Kids.length (fl Za x.P.E.New.Kids),.sl x.P.E.Words.length (fl Zf x.P.E.Words),.sl x.P.E.Kids.length (fl Zi x.P.E.Kids),.val (.int .i64 x.P.E.List_),.sl x.P.E.Ops.length (fl Zg x.P.E.Ops),.val (.int .i64 x.Q.Kind),.val (.int .i64 x.Q.N),.sl x.Q.L.length (fl Za x.Q.L),.val (.int .i64 x.Q.E.Kind),.val (.int .i64 x.Q.E.Old.Kind),.sl x.Q.E.Old.Words.length (fl (eI .u64) x.Q.E.Old.Words),.sl x.Q.E.Old.Kids.length (fl Za x.Q.E.Old.Kids),.val (.int .i64 x.Q.E.New.Kind),.sl x.Q.E.New.Words.length (fl (eI .u64) x.Q.E.New.Words),.sl x.Q.E.New.Kids.length (fl Za x.Q.E.New.Kids),.sl x.Q.E.Words.length (fl Zf x.Q.E.Words),.sl x.Q.E.Kids.length (fl Zi x.Q.E.Kids),.val (.int .i64 x.Q.E.List_),.sl x.Q.E.Ops.length (fl Zg x.Q.E.Ops)]
def Y1 (x:Zh):List G:=[.val (.int .i64 x.Kind),.val (.int .i64 x.N),.sl x.L.length (fl Za x.L),.val (.int .i64 x.E.Kind),.val (.int .i64 x.E.Old.Kind),.sl x.E.Old.Words.length (fl (eI .u64) x.E.Old.Words),.sl x.E.Old.Kids.length (fl Za x.E.Old.Kids),.val (.int .i64 x.E.New.Kind),.sl x.E.New.Words.length (fl (eI .u64) x.E.New.Words),.sl x.E.New.Kids.length (fl Za x.E.New.Kids),.sl x.E.Words.length (fl Zf x.E.Words),.sl x.E.Kids.length (fl Zi x.E.Kids),.val (.int .i64 x.E.List_),.sl x.E.Ops.length (fl Zg x.E.Ops)]
def Xk (x:Zd):List G:=[.val (.int .i64 x.At),.val (.int .i64 x.E.Kind),.val (.int .i64 x.E.Old.Kind),.sl x.E.Old.Words.length (fl (eI .u64) x.E.Old.Words),.sl x.E.Old.Kids.length (fl Za x.E.Old.Kids),.val (.int .i64 x.E.New.Kind),.sl x.E.New.Words.length (fl (eI .u64) x.E.New.Words),.sl x.E.New.Kids.length (fl Za x.E.New.Kids),.sl x.E.Words.length (fl Zf x.E.Words),.sl x.E.Kids.length (fl Zi x.E.Kids),.val (.int .i64 x.E.List_),.sl x.E.Ops.length (fl Zg x.E.Ops)]
def Zk (x:Zc):List G:=[.val (.int .i64 x.Kind),.val (.int .i64 x.Old.Kind),.sl x.Old.Words.length (fl (eI .u64) x.Old.Words),.sl x.Old.Kids.length (fl Za x.Old.Kids),.val (.int .i64 x.New.Kind),.sl x.New.Words.length (fl (eI .u64) x.New.Words),.sl x.New.Kids.length (fl Za x.New.Kids),.sl x.Words.length (fl Zf x.Words),.sl x.Kids.length (fl Zi x.Kids),.val (.int .i64 x.List_),.sl x.Ops.length (fl Zg x.Ops)]
def Zp (x:Zb):List G:=[.val (.int .i64 x.Kind),.sl x.Words.length (fl (eI .u64) x.Words),.sl x.Kids.length (fl Za x.Kids)]
def Zl (x:Zj):List G:=[.val (.int .i64 x.At),.val (.int .u8 x.Mask),.val (.int .u64 x.Old),.val (.int .u64 x.New)]
abbrev vI (x:Int):G := .val (.int .i64 x)
abbrev vB (x:Bool):G := .val (.bool x)
abbrev nV:G := .val (.slice none 0 0)
abbrev sL {α:Type} (e:α→List G) (x:List α):G := .sl x.length (fl e x)
abbrev oR {α:Type} (t s:Nat) (e:α→List G) (x:List α):GObj:=⟨true,t,s,x.length,fl e x⟩
theorem zFn {f:FuncId} {gs:List G} {O O2:Objs} {n n2:Nat} {r:G} {fn:Func} {c:Code} (hc:∀ args w,(callFunc f args).run Try.prog w = .ok (.enter f args) w) (hf:Try.prog.funcs[f]? = some fn) (h:Und O n→O n=none→(∀ k,O (n+k)=none)→W Try.prog n c (Fin Q1 fn.results.toList r n O2 n2) ⟨fn.ntmps,[],Zda 0 gs⟩ (Zy O n []) n) (hb:fn.body=some c:=by exact rfl) (hn:gs.length≤fn.ntmps:=by exact Nat.le_of_ble_eq_true rfl) (h2:n≤n2:=by first | exact Nat.le_refl _ | omega):GTo Try.prog f gs O n r O2 n2:=Zii Z5 hc hf hb hn h2 fun hU=>h hU (hU.fresh _ (Nat.le_refl _)) fun k=>hU.fresh _ (Nat.le_add_right _ _)
structure Hid (p:Prop):Prop where
 get:p
structure Ar {α:Type} (a:α):Prop where
def Ar.v {α:Type} {a:α} (_:Ar a):α:=a
theorem zQ {A B:Prop} (l0:List Nat) (b:B) (e:Ar l0→Hid B→A:=by intro x0 bZ;refine Zmy x0.v (Yz Z5 [] ?_);simp only [push_cast,seval,↓reduceIte,Ze,Ar.v,hN0,hN];exact bZ.get):A:=e ⟨⟩ ⟨b⟩
theorem zQD {A B:Prop} (l0:List Nat) (l1:List (Option Bool)) (b:B) (e:Ar l0→Ar l1→Hid B→A:=by intro x0 x1 bZ;refine Zmy x0.v (Yz Z5 x1.v ?_);simp only [push_cast,seval,↓reduceIte,Ze,Ar.v,hN0,hN];(repeat (with_reducible refine And.intro (by first | (intro h0;simp only [h0,and_self];done) | (intro h0;simp only [h0,Bool.not_false,Bool.not_true,Bool.true_and,Bool.and_true,true_and,and_true,and_self,imp_self,implies_true,bne_iff_ne,ne_eq,beq_iff_eq];done) | (intros;simp_all;done) | exact True.intro) ?_));exact bZ.get):A:=e ⟨⟩ ⟨⟩ ⟨b⟩
theorem Xg {A:Prop} (l0:List G) (e:Ar l0→A:=by intro x0;refine Z5w ?_;(try simp only [Xh,Yw]);have h:=Option.some.inj h;subst h;refine Ztf (.inr rfl) hU x0.v (by omega) ?_;simp only [push_cast,seval,↓reduceIte,Ze,Ar.v,hN0,hN]):A:=e ⟨⟩
theorem Ud {A B:Prop} (l0:List Nat) (l1:List Bool) (b:B) (e:Ar l0→Ar l1→Hid B→A:=by intro x0 x1 bZ;refine Z10 ?_;(try simp only [Xh,Yw]);refine Zmx x0.v x1.v ?_;simp only [push_cast,seval,↓reduceIte,Ar.v];exact bZ.get):A:=e ⟨⟩ ⟨⟩ ⟨b⟩
theorem zCd {A B:Prop} {P0:Prop} (p0:P0) (l1:List Nat) (l2:List Bool) (b:B) (e:P0→Ar l1→Ar l2→Hid B→A:=by intro x0 x1 x2 bZ;refine Yz Z5 [] ?_;simp only [push_cast,seval,↓reduceIte,Ze,hN0,hN];refine x0.then ?_;simp only [push_cast,seval,↓reduceIte,Ze,hN0,hN];refine Zmx x1.v x2.v ?_;simp only [push_cast,seval,↓reduceIte,Ar.v];exact bZ.get):A:=e p0 ⟨⟩ ⟨⟩ ⟨b⟩
theorem zQd {A B:Prop} (l0:List Nat) (l1:List Nat) (l2:List Bool) (b:B) (e:Ar l0→Ar l1→Ar l2→Hid B→A:=by intro x0 x1 x2 bZ;refine Zmy x0.v (Yz Z5 [] ?_);simp only [push_cast,seval,↓reduceIte,Ze,Ar.v,hN0,hN];refine Zmx x1.v x2.v ?_;simp only [push_cast,seval,↓reduceIte,Ar.v];exact bZ.get):A:=e ⟨⟩ ⟨⟩ ⟨⟩ ⟨b⟩
theorem zRd {A B:Prop} (l0:List Nat) (l1:List Bool) (b:B) (e:Ar l0→Ar l1→Hid B→A:=by intro x0 x1 bZ;refine Yz Z5 [] ?_;simp only [push_cast,seval,↓reduceIte,Ze,hN0,hN];refine Zmx x0.v x1.v ?_;simp only [push_cast,seval,↓reduceIte,Ar.v];exact bZ.get):A:=e ⟨⟩ ⟨⟩ ⟨b⟩
theorem zR {A B:Prop} (b:B) (e:Hid B→A:=by intro bZ;refine Yz Z5 [] ?_;simp only [push_cast,seval,↓reduceIte,Ze,hN0,hN];exact bZ.get):A:=e ⟨b⟩
theorem zEn {A:Prop} {P0:Prop} (p0:P0) (e:P0→A:=by intro x0;have h9:=Option.some.inj x0;subst h9;refine And.intro rfl (Fit2.of (Z6 hU rfl rfl ?_) (by omega));simp only [push_cast,seval,↓reduceIte,Ze,hN0,hN]):A:=e p0
theorem zEx {A:Prop} {P0:Prop} (p0:P0) (e:P0→A:=by intro x0;refine Z1z ?_;(try simp only [Xh,Yw,↓reduceIte,Nat.reduceEqDiff]);have h9:=Option.some.inj x0;subst h9;refine And.intro (fun h=>by cases h) (And.intro rfl (Fit2.of (Z6 hU rfl rfl ?_) (by omega)));simp only [push_cast,seval,↓reduceIte,Ze,hN0,hN]):A:=e p0
theorem zD {A B:Prop} (l0:List Nat) (l1:List Bool) (b:B) (e:Ar l0→Ar l1→Hid B→A:=by intro x0 x1 bZ;refine Zmx x0.v x1.v ?_;simp only [push_cast,seval,↓reduceIte,Ar.v];exact bZ.get):A:=e ⟨⟩ ⟨⟩ ⟨b⟩
theorem Zdx {A B:Prop} (l0:List (Option Bool)) {P1:Prop} (p1:P1) {P2:Prop} (p2:P2) {P3:Prop} (p3:P3) (b:B) (e:Ar l0→P1→P2→P3→Hid B→A:=by intro x0 x1 x2 x3 bZ;refine Yz Z5 x0.v ?_;simp only [push_cast,Nat.reduceAdd,Nat.reduceSub,Nat.reduceMul,Nat.reduceLeDiff,Nat.reduceLT,Nat.reduceEqDiff,↓reduceIte,reduceCtorEq,Int.reduceBEq,Int.reduceBNe,Nat.reduceBEq,Int.reduceLE,Int.reduceLT,Int.reduceEq,Int.reduceNe,Int.reduceNeg,Nat.reduceDiv,Nat.reduceMod,Nat.reducePow,Ze,Ar.v,x1,x2,x3,hN0,hN];exact bZ.get):A:=e ⟨⟩ p1 p2 p3 ⟨b⟩
theorem zDs {A B:Prop} (l0:List Nat) (l1:List Bool) (b:B) (e:Ar l0→Ar l1→Hid B→A:=by intro x0 x1 bZ;refine Zmx x0.v x1.v ?_;simp only [push_cast,seval,↓reduceIte,Ar.v];refine Zn ?_;exact bZ.get):A:=e ⟨⟩ ⟨⟩ ⟨b⟩
theorem zW {A B:Prop} (b:B) (e:Hid B→A:=by intro bZ;refine Z5w ?_;(try simp only [Xh,Yw]);exact bZ.get):A:=e ⟨b⟩
theorem zEy {A:Prop} {P0:Prop} (p0:P0) (e:P0→A:=by intro x0;have h9:=Option.some.inj x0;subst h9;refine And.intro (fun h=>by cases h) (And.intro rfl (Fit2.of (Z6 hU rfl rfl ?_) (by omega)));simp only [push_cast,seval,↓reduceIte,Ze,hN0,hN]):A:=e p0
theorem zX1 {A B:Prop} {P0:Prop} (p0:P0) (b:B) (e:P0→Hid B→A:=by intro x0 bZ;simp only [push_cast,seval,↓reduceIte,Ze,x0,hN0,hN];exact bZ.get):A:=e p0 ⟨b⟩
theorem zG {A B:Prop} (b:B) (e:Hid B→A:=by intro bZ;(repeat (with_reducible refine And.intro (by first | (intro h0;simp only [h0,and_self];done) | (intro h0;simp only [h0,Bool.not_false,Bool.not_true,Bool.true_and,Bool.and_true,true_and,and_true,and_self,imp_self,implies_true,bne_iff_ne,ne_eq,beq_iff_eq];done) | (intros;simp_all;done) | exact True.intro) ?_));exact bZ.get):A:=e ⟨b⟩
theorem U5 {A:Prop} {P0:Prop} (p0:P0) {P1:Prop} (p1:P1) (e:P0→P1→A:=by intro x0 x1;have h9:=Option.some.inj x0;subst h9;refine And.intro rfl (Fit2.of (Z6 hU rfl rfl ?_) (by omega));simp only [push_cast,seval,↓reduceIte,Ze,x1,hN0,hN]):A:=e p0 p1
theorem zX3 {A B:Prop} {P0:Prop} (p0:P0) {P1:Prop} (p1:P1) {P2:Prop} (p2:P2) (b:B) (e:P0→P1→P2→Hid B→A:=by intro x0 x1 x2 bZ;simp only [push_cast,seval,↓reduceIte,Ze,x0,x1,x2,hN0,hN];exact bZ.get):A:=e p0 p1 p2 ⟨b⟩
theorem Zhu {A:Prop} {P0:Prop} (p0:P0) {P1:Prop} (p1:P1) {P2:Prop} (p2:P2) {P3:Prop} (p3:P3) (e:P0→P1→P2→P3→A:=by intro x0 x1 x2 x3;have h9:=Option.some.inj x0;subst h9;refine And.intro rfl (Fit2.of (Z6 hU rfl rfl ?_) (by omega));simp only [push_cast,seval,↓reduceIte,Ze,x1,x2,x3,hN0,hN]):A:=e p0 p1 p2 p3
theorem zF8 {A B:Prop} {P0:Prop} (p0:P0) {P1:Prop} (p1:P1) {P2:Prop} (p2:P2) {P3:Prop} (p3:P3) {P4:Prop} (p4:P4) {P5:Prop} (p5:P5) {P6:Prop} (p6:P6) {P7:Prop} (p7:P7) (b:B) (e:P0→P1→P2→P3→P4→P5→P6→P7→Hid B→A:=by intro x0 x1 x2 x3 x4 x5 x6 x7 bZ;simp only [push_cast,Nat.reduceAdd,Nat.reduceSub,Nat.reduceMul,Nat.reduceLeDiff,Nat.reduceLT,Nat.reduceEqDiff,↓reduceIte,reduceCtorEq,Int.reduceBEq,Int.reduceBNe,Nat.reduceBEq,Int.reduceLE,Int.reduceLT,Int.reduceEq,Int.reduceNe,Int.reduceNeg,Nat.reduceDiv,Nat.reduceMod,Nat.reducePow,Ze,x0,x1,x2,x3,x4,x5,x6,x7,hN0,hN];exact bZ.get):A:=e p0 p1 p2 p3 p4 p5 p6 p7 ⟨b⟩
theorem Z4q {A:Prop} {P0:Prop} (p0:P0) {P1:Prop} (p1:P1) {P2:Prop} (p2:P2) {P3:Prop} (p3:P3) {P4:Prop} (p4:P4) {P5:Prop} (p5:P5) {P6:Prop} (p6:P6) {P7:Prop} (p7:P7) {P8:Prop} (p8:P8) (e:P0→P1→P2→P3→P4→P5→P6→P7→P8→A:=by intro x0 x1 x2 x3 x4 x5 x6 x7 x8;have h9:=Option.some.inj x0;subst h9;refine And.intro rfl (Fit2.of (Z6 hU rfl rfl ?_) (by omega));simp only [push_cast,Nat.reduceAdd,Nat.reduceSub,Nat.reduceMul,Nat.reduceLeDiff,Nat.reduceLT,Nat.reduceEqDiff,↓reduceIte,reduceCtorEq,Int.reduceBEq,Int.reduceBNe,Nat.reduceBEq,Int.reduceLE,Int.reduceLT,Int.reduceEq,Int.reduceNe,Int.reduceNeg,Nat.reduceDiv,Nat.reduceMod,Nat.reducePow,Ze,x1,x2,x3,x4,x5,x6,x7,x8,hN0,hN]):A:=e p0 p1 p2 p3 p4 p5 p6 p7 p8
theorem zX5 {A B:Prop} {P0:Prop} (p0:P0) {P1:Prop} (p1:P1) {P2:Prop} (p2:P2) {P3:Prop} (p3:P3) {P4:Prop} (p4:P4) (b:B) (e:P0→P1→P2→P3→P4→Hid B→A:=by intro x0 x1 x2 x3 x4 bZ;simp only [push_cast,seval,↓reduceIte,Ze,x0,x1,x2,x3,x4,hN0,hN];exact bZ.get):A:=e p0 p1 p2 p3 p4 ⟨b⟩
theorem Z8f {A:Prop} {P0:Prop} (p0:P0) {P1:Prop} (p1:P1) {P2:Prop} (p2:P2) {P3:Prop} (p3:P3) {P4:Prop} (p4:P4) {P5:Prop} (p5:P5) (e:P0→P1→P2→P3→P4→P5→A:=by intro x0 x1 x2 x3 x4 x5;have h9:=Option.some.inj x0;subst h9;refine And.intro rfl (Fit2.of (Z6 hU rfl rfl ?_) (by omega));simp only [push_cast,seval,↓reduceIte,Ze,x1,x2,x3,x4,x5,hN0,hN]):A:=e p0 p1 p2 p3 p4 p5
theorem zX4 {A B:Prop} {P0:Prop} (p0:P0) {P1:Prop} (p1:P1) {P2:Prop} (p2:P2) {P3:Prop} (p3:P3) (b:B) (e:P0→P1→P2→P3→Hid B→A:=by intro x0 x1 x2 x3 bZ;simp only [push_cast,seval,↓reduceIte,Ze,x0,x1,x2,x3,hN0,hN];exact bZ.get):A:=e p0 p1 p2 p3 ⟨b⟩
theorem Z05 {A:Prop} {P0:Prop} (p0:P0) {P1:Prop} (p1:P1) {P2:Prop} (p2:P2) {P3:Prop} (p3:P3) {P4:Prop} (p4:P4) (e:P0→P1→P2→P3→P4→A:=by intro x0 x1 x2 x3 x4;have h9:=Option.some.inj x0;subst h9;refine And.intro rfl (Fit2.of (Z6 hU rfl rfl ?_) (by omega));simp only [push_cast,seval,↓reduceIte,Ze,x1,x2,x3,x4,hN0,hN]):A:=e p0 p1 p2 p3 p4
theorem zF7 {A B:Prop} {P0:Prop} (p0:P0) {P1:Prop} (p1:P1) {P2:Prop} (p2:P2) {P3:Prop} (p3:P3) {P4:Prop} (p4:P4) {P5:Prop} (p5:P5) {P6:Prop} (p6:P6) (b:B) (e:P0→P1→P2→P3→P4→P5→P6→Hid B→A:=by intro x0 x1 x2 x3 x4 x5 x6 bZ;simp only [push_cast,Nat.reduceAdd,Nat.reduceSub,Nat.reduceMul,Nat.reduceLeDiff,Nat.reduceLT,Nat.reduceEqDiff,↓reduceIte,reduceCtorEq,Int.reduceBEq,Int.reduceBNe,Nat.reduceBEq,Int.reduceLE,Int.reduceLT,Int.reduceEq,Int.reduceNe,Int.reduceNeg,Nat.reduceDiv,Nat.reduceMod,Nat.reducePow,Ze,x0,x1,x2,x3,x4,x5,x6,hN0,hN];exact bZ.get):A:=e p0 p1 p2 p3 p4 p5 p6 ⟨b⟩
theorem Zxs {A:Prop} {P0:Prop} (p0:P0) {P1:Prop} (p1:P1) {P2:Prop} (p2:P2) {P3:Prop} (p3:P3) {P4:Prop} (p4:P4) {P5:Prop} (p5:P5) {P6:Prop} (p6:P6) {P7:Prop} (p7:P7) (e:P0→P1→P2→P3→P4→P5→P6→P7→A:=by intro x0 x1 x2 x3 x4 x5 x6 x7;have h9:=Option.some.inj x0;subst h9;refine And.intro rfl (Fit2.of (Z6 hU rfl rfl ?_) (by omega));simp only [push_cast,Nat.reduceAdd,Nat.reduceSub,Nat.reduceMul,Nat.reduceLeDiff,Nat.reduceLT,Nat.reduceEqDiff,↓reduceIte,reduceCtorEq,Int.reduceBEq,Int.reduceBNe,Nat.reduceBEq,Int.reduceLE,Int.reduceLT,Int.reduceEq,Int.reduceNe,Int.reduceNeg,Nat.reduceDiv,Nat.reduceMod,Nat.reducePow,Ze,x1,x2,x3,x4,x5,x6,x7,hN0,hN]):A:=e p0 p1 p2 p3 p4 p5 p6 p7
theorem Zlr {A:Prop} (l0:List G) (e:Ar l0→A:=by intro x0;have h:=Option.some.inj h;subst h;refine Ztf (.inr rfl) hU x0.v (by omega) ?_;simp only [push_cast,seval,↓reduceIte,Ze,Ar.v,hN0,hN]):A:=e ⟨⟩
theorem Z9q {A B:Prop} (l0:List Nat) {P1:Prop} (p1:P1) (b:B) (e:Ar l0→P1→Hid B→A:=by intro x0 x1 bZ;refine Zmy x0.v (Yz Z5 [] ?_);simp only [push_cast,seval,↓reduceIte,Ze,Ar.v,x1,hN0,hN];exact bZ.get):A:=e ⟨⟩ p1 ⟨b⟩
theorem Zg2 {A B:Prop} (l0:List (Option Bool)) {P1:Prop} (p1:P1) {P2:Prop} (p2:P2) {P3:Prop} (p3:P3) (b:B) (e:Ar l0→P1→P2→P3→Hid B→A:=by intro x0 x1 x2 x3 bZ;refine Yz Z5 x0.v ?_;simp only [push_cast,seval,↓reduceIte,Ze,Ar.v,x1,x2,x3,hN0,hN];exact bZ.get):A:=e ⟨⟩ p1 p2 p3 ⟨b⟩
theorem Z54 {A B:Prop} (l0:List (Option Bool)) {P1:Prop} (p1:P1) {P2:Prop} (p2:P2) {P3:Prop} (p3:P3) {P4:Prop} (p4:P4) (b:B) (e:Ar l0→P1→P2→P3→P4→Hid B→A:=by intro x0 x1 x2 x3 x4 bZ;refine Yz Z5 x0.v ?_;simp only [push_cast,Nat.reduceAdd,Nat.reduceSub,Nat.reduceMul,Nat.reduceLeDiff,Nat.reduceLT,Nat.reduceEqDiff,↓reduceIte,reduceCtorEq,Int.reduceBEq,Int.reduceBNe,Nat.reduceBEq,Int.reduceLE,Int.reduceLT,Int.reduceEq,Int.reduceNe,Int.reduceNeg,Nat.reduceDiv,Nat.reduceMod,Nat.reducePow,Ze,Ar.v,x1,x2,x3,x4,hN0,hN];exact bZ.get):A:=e ⟨⟩ p1 p2 p3 p4 ⟨b⟩
theorem V0 {A B:Prop} (l0:List (Option Bool)) {P1:Prop} (p1:P1) {P2:Prop} (p2:P2) (b:B) (e:Ar l0→P1→P2→Hid B→A:=by intro x0 x1 x2 bZ;refine Yz Z5 x0.v ?_;simp only [push_cast,seval,↓reduceIte,Ze,Ar.v,x1,x2,hN0,hN];exact bZ.get):A:=e ⟨⟩ p1 p2 ⟨b⟩
theorem Z08 {A B:Prop} (l0:List (Option Bool)) {P1:Prop} (p1:P1) {P2:Prop} (p2:P2) {P3:Prop} (p3:P3) {P4:Prop} (p4:P4) (b:B) (e:Ar l0→P1→P2→P3→P4→Hid B→A:=by intro x0 x1 x2 x3 x4 bZ;refine Yz Z5 x0.v ?_;simp only [push_cast,seval,↓reduceIte,Ze,Ar.v,x1,x2,x3,x4,hN0,hN];exact bZ.get):A:=e ⟨⟩ p1 p2 p3 p4 ⟨b⟩
theorem Zxt {A B:Prop} (l0:List (Option Bool)) {P1:Prop} (p1:P1) {P2:Prop} (p2:P2) {P3:Prop} (p3:P3) {P4:Prop} (p4:P4) {P5:Prop} (p5:P5) {P6:Prop} (p6:P6) {P7:Prop} (p7:P7) (b:B) (e:Ar l0→P1→P2→P3→P4→P5→P6→P7→Hid B→A:=by intro x0 x1 x2 x3 x4 x5 x6 x7 bZ;refine Yz Z5 x0.v ?_;simp only [push_cast,Nat.reduceAdd,Nat.reduceSub,Nat.reduceMul,Nat.reduceLeDiff,Nat.reduceLT,Nat.reduceEqDiff,↓reduceIte,reduceCtorEq,Int.reduceBEq,Int.reduceBNe,Nat.reduceBEq,Int.reduceLE,Int.reduceLT,Int.reduceEq,Int.reduceNe,Int.reduceNeg,Nat.reduceDiv,Nat.reduceMod,Nat.reducePow,Ze,Ar.v,x1,x2,x3,x4,x5,x6,x7,hN0,hN];exact bZ.get):A:=e ⟨⟩ p1 p2 p3 p4 p5 p6 p7 ⟨b⟩
theorem zK {A B:Prop} (b:B) (e:Hid B→A:=by intro bZ;refine Z10 ?_;(try simp only [Xh,Yw]);exact bZ.get):A:=e ⟨b⟩
theorem Qo {A:Prop} {P0:Prop} (p0:P0) {P1:Prop} (p1:P1) (e:P0→P1→A:=by intro x0 x1;simp only [push_cast,seval,↓reduceIte,Ze,x0,x1,hN0,hN]):A:=e p0 p1
theorem zX2 {A B:Prop} {P0:Prop} (p0:P0) {P1:Prop} (p1:P1) (b:B) (e:P0→P1→Hid B→A:=by intro x0 x1 bZ;simp only [push_cast,seval,↓reduceIte,Ze,x0,x1,hN0,hN];exact bZ.get):A:=e p0 p1 ⟨b⟩
theorem Ziq {A:Prop} {P0:Prop} (p0:P0) {P1:Prop} (p1:P1) {P2:Prop} (p2:P2) (e:P0→P1→P2→A:=by intro x0 x1 x2;have h9:=Option.some.inj x0;subst h9;refine And.intro rfl (Fit2.of (Z6 hU rfl rfl ?_) (by omega));simp only [push_cast,seval,↓reduceIte,Ze,x1,x2,hN0,hN]):A:=e p0 p1 p2
theorem Zc1 {A B:Prop} (l0:List (Option Bool)) {P1:Prop} (p1:P1) (b:B) (e:Ar l0→P1→Hid B→A:=by intro x0 x1 bZ;refine Yz Z5 x0.v ?_;simp only [push_cast,seval,↓reduceIte,Ze,Ar.v,x1,hN0,hN];exact bZ.get):A:=e ⟨⟩ p1 ⟨b⟩
theorem zF3 {A B:Prop} {P0:Prop} (p0:P0) {P1:Prop} (p1:P1) {P2:Prop} (p2:P2) (b:B) (e:P0→P1→P2→Hid B→A:=by intro x0 x1 x2 bZ;simp only [push_cast,Nat.reduceAdd,Nat.reduceSub,Nat.reduceMul,Nat.reduceLeDiff,Nat.reduceLT,Nat.reduceEqDiff,↓reduceIte,reduceCtorEq,Int.reduceBEq,Int.reduceBNe,Nat.reduceBEq,Int.reduceLE,Int.reduceLT,Int.reduceEq,Int.reduceNe,Int.reduceNeg,Nat.reduceDiv,Nat.reduceMod,Nat.reducePow,Ze,x0,x1,x2,hN0,hN];exact bZ.get):A:=e p0 p1 p2 ⟨b⟩
theorem Z9r {A:Prop} {P0:Prop} (p0:P0) {P1:Prop} (p1:P1) {P2:Prop} (p2:P2) {P3:Prop} (p3:P3) (e:P0→P1→P2→P3→A:=by intro x0 x1 x2 x3;simp only [push_cast,seval,↓reduceIte,Ze,x0,x1,x2,x3,hN0,hN]):A:=e p0 p1 p2 p3
theorem Z8d {A:Prop} {P0:Prop} (p0:P0) {P1:Prop} (p1:P1) {P2:Prop} (p2:P2) {P3:Prop} (p3:P3) {P4:Prop} (p4:P4) (e:P0→P1→P2→P3→P4→A:=by intro x0 x1 x2 x3 x4;have h9:=Option.some.inj x0;subst h9;refine And.intro rfl (Fit2.of (Z6 hU rfl rfl ?_) (by omega));simp only [push_cast,Nat.reduceAdd,Nat.reduceSub,Nat.reduceMul,Nat.reduceLeDiff,Nat.reduceLT,Nat.reduceEqDiff,↓reduceIte,reduceCtorEq,Int.reduceBEq,Int.reduceBNe,Nat.reduceBEq,Int.reduceLE,Int.reduceLT,Int.reduceEq,Int.reduceNe,Int.reduceNeg,Nat.reduceDiv,Nat.reduceMod,Nat.reducePow,Ze,x1,x2,x3,x4,hN0,hN]):A:=e p0 p1 p2 p3 p4
theorem Z8h {A B:Prop} (l0:List Nat) {P1:Prop} (p1:P1) {P2:Prop} (p2:P2) {P3:Prop} (p3:P3) {P4:Prop} (p4:P4) (b:B) (e:Ar l0→P1→P2→P3→P4→Hid B→A:=by intro x0 x1 x2 x3 x4 bZ;refine Zmy x0.v (Yz Z5 [] ?_);simp only [push_cast,seval,↓reduceIte,Ze,Ar.v,x1,x2,x3,x4,hN0,hN];exact bZ.get):A:=e ⟨⟩ p1 p2 p3 p4 ⟨b⟩
theorem zF6 {A B:Prop} {P0:Prop} (p0:P0) {P1:Prop} (p1:P1) {P2:Prop} (p2:P2) {P3:Prop} (p3:P3) {P4:Prop} (p4:P4) {P5:Prop} (p5:P5) (b:B) (e:P0→P1→P2→P3→P4→P5→Hid B→A:=by intro x0 x1 x2 x3 x4 x5 bZ;simp only [push_cast,Nat.reduceAdd,Nat.reduceSub,Nat.reduceMul,Nat.reduceLeDiff,Nat.reduceLT,Nat.reduceEqDiff,↓reduceIte,reduceCtorEq,Int.reduceBEq,Int.reduceBNe,Nat.reduceBEq,Int.reduceLE,Int.reduceLT,Int.reduceEq,Int.reduceNe,Int.reduceNeg,Nat.reduceDiv,Nat.reduceMod,Nat.reducePow,Ze,x0,x1,x2,x3,x4,x5,hN0,hN];exact bZ.get):A:=e p0 p1 p2 p3 p4 p5 ⟨b⟩
theorem Z07 {A B:Prop} (l0:List (Option Bool)) {P1:Prop} (p1:P1) {P2:Prop} (p2:P2) {P3:Prop} (p3:P3) {P4:Prop} (p4:P4) {P5:Prop} (p5:P5) (b:B) (e:Ar l0→P1→P2→P3→P4→P5→Hid B→A:=by intro x0 x1 x2 x3 x4 x5 bZ;refine Yz Z5 x0.v ?_;simp only [push_cast,Nat.reduceAdd,Nat.reduceSub,Nat.reduceMul,Nat.reduceLeDiff,Nat.reduceLT,Nat.reduceEqDiff,↓reduceIte,reduceCtorEq,Int.reduceBEq,Int.reduceBNe,Nat.reduceBEq,Int.reduceLE,Int.reduceLT,Int.reduceEq,Int.reduceNe,Int.reduceNeg,Nat.reduceDiv,Nat.reduceMod,Nat.reducePow,Ze,Ar.v,x1,x2,x3,x4,x5,hN0,hN];exact bZ.get):A:=e ⟨⟩ p1 p2 p3 p4 p5 ⟨b⟩
theorem Z8e {A:Prop} {P0:Prop} (p0:P0) {P1:Prop} (p1:P1) {P2:Prop} (p2:P2) {P3:Prop} (p3:P3) {P4:Prop} (p4:P4) {P5:Prop} (p5:P5) (e:P0→P1→P2→P3→P4→P5→A:=by intro x0 x1 x2 x3 x4 x5;have h9:=Option.some.inj x0;subst h9;refine And.intro rfl (Fit2.of (Z6 hU rfl rfl ?_) (by omega));simp only [push_cast,Nat.reduceAdd,Nat.reduceSub,Nat.reduceMul,Nat.reduceLeDiff,Nat.reduceLT,Nat.reduceEqDiff,↓reduceIte,reduceCtorEq,Int.reduceBEq,Int.reduceBNe,Nat.reduceBEq,Int.reduceLE,Int.reduceLT,Int.reduceEq,Int.reduceNe,Int.reduceNeg,Nat.reduceDiv,Nat.reduceMod,Nat.reducePow,Ze,x1,x2,x3,x4,x5,hN0,hN]):A:=e p0 p1 p2 p3 p4 p5
theorem Ue {A:Prop} (e:A:=by simp only [push_cast,seval,↓reduceIte,Ze,hN0,hN]):A:=e
theorem Z8k {A B:Prop} (l0:List (Option Bool)) {P1:Prop} (p1:P1) {P2:Prop} (p2:P2) {P3:Prop} (p3:P3) {P4:Prop} (p4:P4) {P5:Prop} (p5:P5) (b:B) (e:Ar l0→P1→P2→P3→P4→P5→Hid B→A:=by intro x0 x1 x2 x3 x4 x5 bZ;refine Yz Z5 x0.v ?_;simp only [push_cast,seval,↓reduceIte,Ze,Ar.v,x1,x2,x3,x4,x5,hN0,hN];exact bZ.get):A:=e ⟨⟩ p1 p2 p3 p4 p5 ⟨b⟩
theorem Z8l {A:Prop} {P0:Prop} (p0:P0) {P1:Prop} (p1:P1) {P2:Prop} (p2:P2) {P3:Prop} (p3:P3) {P4:Prop} (p4:P4) (e:P0→P1→P2→P3→P4→A:=by intro x0 x1 x2 x3 x4;simp only [push_cast,seval,↓reduceIte,Ze,x0,x1,x2,x3,x4,hN0,hN]):A:=e p0 p1 p2 p3 p4
theorem zXt {A B:Prop} (b:B) (e:Hid B→A:=by intro bZ;refine Z1z ?_;(try simp only [Xh,Yw,↓reduceIte,Nat.reduceEqDiff]);exact bZ.get):A:=e ⟨b⟩
theorem Uz {A B:Prop} (l0:List Nat) {P1:Prop} (p1:P1) {P2:Prop} (p2:P2) (b:B) (e:Ar l0→P1→P2→Hid B→A:=by intro x0 x1 x2 bZ;refine Zmy x0.v (Yz Z5 [] ?_);simp only [push_cast,seval,↓reduceIte,Ze,Ar.v,x1,x2,hN0,hN];exact bZ.get):A:=e ⟨⟩ p1 p2 ⟨b⟩
theorem Z8i {A B:Prop} (l0:List (Option Bool)) {P1:Prop} (p1:P1) {P2:Prop} (p2:P2) {P3:Prop} (p3:P3) {P4:Prop} (p4:P4) {P5:Prop} (p5:P5) {P6:Prop} (p6:P6) (b:B) (e:Ar l0→P1→P2→P3→P4→P5→P6→Hid B→A:=by intro x0 x1 x2 x3 x4 x5 x6 bZ;refine Yz Z5 x0.v ?_;simp only [push_cast,Nat.reduceAdd,Nat.reduceSub,Nat.reduceMul,Nat.reduceLeDiff,Nat.reduceLT,Nat.reduceEqDiff,↓reduceIte,reduceCtorEq,Int.reduceBEq,Int.reduceBNe,Nat.reduceBEq,Int.reduceLE,Int.reduceLT,Int.reduceEq,Int.reduceNe,Int.reduceNeg,Nat.reduceDiv,Nat.reduceMod,Nat.reducePow,Ze,Ar.v,x1,x2,x3,x4,x5,x6,hN0,hN];exact bZ.get):A:=e ⟨⟩ p1 p2 p3 p4 p5 p6 ⟨b⟩
theorem Z8g {A:Prop} {P0:Prop} (p0:P0) {P1:Prop} (p1:P1) {P2:Prop} (p2:P2) {P3:Prop} (p3:P3) {P4:Prop} (p4:P4) {P5:Prop} (p5:P5) (e:P0→P1→P2→P3→P4→P5→A:=by intro x0 x1 x2 x3 x4 x5;simp only [push_cast,Nat.reduceAdd,Nat.reduceSub,Nat.reduceMul,Nat.reduceLeDiff,Nat.reduceLT,Nat.reduceEqDiff,↓reduceIte,reduceCtorEq,Int.reduceBEq,Int.reduceBNe,Nat.reduceBEq,Int.reduceLE,Int.reduceLT,Int.reduceEq,Int.reduceNe,Int.reduceNeg,Nat.reduceDiv,Nat.reduceMod,Nat.reducePow,Ze,x0,x1,x2,x3,x4,x5,hN0,hN]):A:=e p0 p1 p2 p3 p4 p5
theorem zF9 {A B:Prop} {P0:Prop} (p0:P0) {P1:Prop} (p1:P1) {P2:Prop} (p2:P2) {P3:Prop} (p3:P3) {P4:Prop} (p4:P4) {P5:Prop} (p5:P5) {P6:Prop} (p6:P6) {P7:Prop} (p7:P7) {P8:Prop} (p8:P8) (b:B) (e:P0→P1→P2→P3→P4→P5→P6→P7→P8→Hid B→A:=by intro x0 x1 x2 x3 x4 x5 x6 x7 x8 bZ;simp only [push_cast,Nat.reduceAdd,Nat.reduceSub,Nat.reduceMul,Nat.reduceLeDiff,Nat.reduceLT,Nat.reduceEqDiff,↓reduceIte,reduceCtorEq,Int.reduceBEq,Int.reduceBNe,Nat.reduceBEq,Int.reduceLE,Int.reduceLT,Int.reduceEq,Int.reduceNe,Int.reduceNeg,Nat.reduceDiv,Nat.reduceMod,Nat.reducePow,Ze,x0,x1,x2,x3,x4,x5,x6,x7,x8,hN0,hN];exact bZ.get):A:=e p0 p1 p2 p3 p4 p5 p6 p7 p8 ⟨b⟩
theorem zO {A B:Prop} (b:B) (e:Hid B→A:=by intro bZ;(repeat (with_reducible refine And.intro (by first | omega | exact Z0 rfl | exact Zs | exact Z1b rfl | exact Zv9 rfl rfl | exact Zph rfl | exact Zv8 rfl) ?_));exact bZ.get):A:=e ⟨b⟩
theorem Zv6 {A:Prop} {P0:Prop} (p0:P0) {P1:Prop} (p1:P1) {P2:Prop} (p2:P2) {P3:Prop} (p3:P3) {P4:Prop} (p4:P4) {P5:Prop} (p5:P5) {P6:Prop} (p6:P6) {P7:Prop} (p7:P7) {P8:Prop} (p8:P8) (e:P0→P1→P2→P3→P4→P5→P6→P7→P8→A:=by intro x0 x1 x2 x3 x4 x5 x6 x7 x8;simp only [push_cast,Nat.reduceAdd,Nat.reduceSub,Nat.reduceMul,Nat.reduceLeDiff,Nat.reduceLT,Nat.reduceEqDiff,↓reduceIte,reduceCtorEq,Int.reduceBEq,Int.reduceBNe,Nat.reduceBEq,Int.reduceLE,Int.reduceLT,Int.reduceEq,Int.reduceNe,Int.reduceNeg,Nat.reduceDiv,Nat.reduceMod,Nat.reducePow,Ze,x0,x1,x2,x3,x4,x5,x6,x7,x8,hN0,hN]):A:=e p0 p1 p2 p3 p4 p5 p6 p7 p8
theorem zS {A B:Prop} (b:B) (e:Hid B→A:=by intro bZ;simp only [push_cast,seval,↓reduceIte,Ze,hN0,hN];exact bZ.get):A:=e ⟨b⟩
theorem zEf {A:Prop} (e:A:=by refine And.intro rfl (Fit2.of (Z6 hU rfl rfl ?_) (by omega));simp only [push_cast,seval,↓reduceIte,Ze,hN0,hN]):A:=e
theorem zRo {A B:Prop} (l0:List (Option Bool)) (b:B) (e:Ar l0→Hid B→A:=by intro x0 bZ;refine Yz Z5 x0.v ?_;simp only [push_cast,seval,↓reduceIte,Ze,Ar.v,hN0,hN];exact bZ.get):A:=e ⟨⟩ ⟨b⟩
theorem zTs {A B:Prop} {P0:Prop} (p0:P0) (b:B) (e:P0→Hid B→A:=by intro x0 bZ;refine x0.then ?_;simp only [push_cast,seval,↓reduceIte,Ze,hN0,hN];exact bZ.get):A:=e p0 ⟨b⟩
theorem Zxu {A:Prop} {P0:Prop} (p0:P0) {P1:Prop} (p1:P1) {P2:Prop} (p2:P2) (e:P0→P1→P2→A:=by intro x0 x1 x2;simp only [push_cast,seval,↓reduceIte,Ze,x0,x1,x2,hN0,hN]):A:=e p0 p1 p2
theorem zX6 {A B:Prop} {P0:Prop} (p0:P0) {P1:Prop} (p1:P1) {P2:Prop} (p2:P2) {P3:Prop} (p3:P3) {P4:Prop} (p4:P4) {P5:Prop} (p5:P5) (b:B) (e:P0→P1→P2→P3→P4→P5→Hid B→A:=by intro x0 x1 x2 x3 x4 x5 bZ;simp only [push_cast,seval,↓reduceIte,Ze,x0,x1,x2,x3,x4,x5,hN0,hN];exact bZ.get):A:=e p0 p1 p2 p3 p4 p5 ⟨b⟩
theorem Z4r {A B:Prop} (l0:List (Option Bool)) {P1:Prop} (p1:P1) {P2:Prop} (p2:P2) {P3:Prop} (p3:P3) {P4:Prop} (p4:P4) {P5:Prop} (p5:P5) {P6:Prop} (p6:P6) (b:B) (e:Ar l0→P1→P2→P3→P4→P5→P6→Hid B→A:=by intro x0 x1 x2 x3 x4 x5 x6 bZ;refine Yz Z5 x0.v ?_;simp only [push_cast,seval,↓reduceIte,Ze,Ar.v,x1,x2,x3,x4,x5,x6,hN0,hN];exact bZ.get):A:=e ⟨⟩ p1 p2 p3 p4 p5 p6 ⟨b⟩
theorem zF5 {A B:Prop} {P0:Prop} (p0:P0) {P1:Prop} (p1:P1) {P2:Prop} (p2:P2) {P3:Prop} (p3:P3) {P4:Prop} (p4:P4) (b:B) (e:P0→P1→P2→P3→P4→Hid B→A:=by intro x0 x1 x2 x3 x4 bZ;simp only [push_cast,Nat.reduceAdd,Nat.reduceSub,Nat.reduceMul,Nat.reduceLeDiff,Nat.reduceLT,Nat.reduceEqDiff,↓reduceIte,reduceCtorEq,Int.reduceBEq,Int.reduceBNe,Nat.reduceBEq,Int.reduceLE,Int.reduceLT,Int.reduceEq,Int.reduceNe,Int.reduceNeg,Nat.reduceDiv,Nat.reduceMod,Nat.reducePow,Ze,x0,x1,x2,x3,x4,hN0,hN];exact bZ.get):A:=e p0 p1 p2 p3 p4 ⟨b⟩
theorem zC {A B:Prop} {P0:Prop} (p0:P0) (b:B) (e:P0→Hid B→A:=by intro x0 bZ;refine Yz Z5 [] ?_;simp only [push_cast,seval,↓reduceIte,Ze,hN0,hN];refine x0.then ?_;simp only [push_cast,seval,↓reduceIte,Ze,hN0,hN];exact bZ.get):A:=e p0 ⟨b⟩
theorem zF4 {A B:Prop} {P0:Prop} (p0:P0) {P1:Prop} (p1:P1) {P2:Prop} (p2:P2) {P3:Prop} (p3:P3) (b:B) (e:P0→P1→P2→P3→Hid B→A:=by intro x0 x1 x2 x3 bZ;simp only [push_cast,Nat.reduceAdd,Nat.reduceSub,Nat.reduceMul,Nat.reduceLeDiff,Nat.reduceLT,Nat.reduceEqDiff,↓reduceIte,reduceCtorEq,Int.reduceBEq,Int.reduceBNe,Nat.reduceBEq,Int.reduceLE,Int.reduceLT,Int.reduceEq,Int.reduceNe,Int.reduceNeg,Nat.reduceDiv,Nat.reduceMod,Nat.reducePow,Ze,x0,x1,x2,x3,hN0,hN];exact bZ.get):A:=e p0 p1 p2 p3 ⟨b⟩
theorem Z5v {A B:Prop} {P0:Prop} (p0:P0) {P1:Prop} (p1:P1) {P2:Prop} (p2:P2) {P3:Prop} (p3:P3) {P4:Prop} (p4:P4) {P5:Prop} (p5:P5) {P6:Prop} (p6:P6) {P7:Prop} (p7:P7) {P8:Prop} (p8:P8) {P9:Prop} (p9:P9) (b:B) (e:P0→P1→P2→P3→P4→P5→P6→P7→P8→P9→Hid B→A:=by intro x0 x1 x2 x3 x4 x5 x6 x7 x8 x9 bZ;simp only [push_cast,Nat.reduceAdd,Nat.reduceSub,Nat.reduceMul,Nat.reduceLeDiff,Nat.reduceLT,Nat.reduceEqDiff,↓reduceIte,reduceCtorEq,Int.reduceBEq,Int.reduceBNe,Nat.reduceBEq,Int.reduceLE,Int.reduceLT,Int.reduceEq,Int.reduceNe,Int.reduceNeg,Nat.reduceDiv,Nat.reduceMod,Nat.reducePow,Ze,x0,x1,x2,x3,x4,x5,x6,x7,x8,x9,hN0,hN];exact bZ.get):A:=e p0 p1 p2 p3 p4 p5 p6 p7 p8 p9 ⟨b⟩
theorem Z06 {A:Prop} {P0:Prop} (p0:P0) {P1:Prop} (p1:P1) {P2:Prop} (p2:P2) {P3:Prop} (p3:P3) {P4:Prop} (p4:P4) {P5:Prop} (p5:P5) {P6:Prop} (p6:P6) {P7:Prop} (p7:P7) {P8:Prop} (p8:P8) {P9:Prop} (p9:P9) (e:P0→P1→P2→P3→P4→P5→P6→P7→P8→P9→A:=by intro x0 x1 x2 x3 x4 x5 x6 x7 x8 x9;simp only [push_cast,Nat.reduceAdd,Nat.reduceSub,Nat.reduceMul,Nat.reduceLeDiff,Nat.reduceLT,Nat.reduceEqDiff,↓reduceIte,reduceCtorEq,Int.reduceBEq,Int.reduceBNe,Nat.reduceBEq,Int.reduceLE,Int.reduceLT,Int.reduceEq,Int.reduceNe,Int.reduceNeg,Nat.reduceDiv,Nat.reduceMod,Nat.reducePow,Ze,x0,x1,x2,x3,x4,x5,x6,x7,x8,x9,hN0,hN]):A:=e p0 p1 p2 p3 p4 p5 p6 p7 p8 p9
theorem Z8m {A:Prop} {P0:Prop} (p0:P0) {P1:Prop} (p1:P1) {P2:Prop} (p2:P2) {P3:Prop} (p3:P3) {P4:Prop} (p4:P4) {P5:Prop} (p5:P5) (e:P0→P1→P2→P3→P4→P5→A:=by intro x0 x1 x2 x3 x4 x5;simp only [push_cast,seval,↓reduceIte,Ze,x0,x1,x2,x3,x4,x5,hN0,hN]):A:=e p0 p1 p2 p3 p4 p5
theorem Z8j {A B:Prop} (l0:List (Option Bool)) {P1:Prop} (p1:P1) {P2:Prop} (p2:P2) {P3:Prop} (p3:P3) {P4:Prop} (p4:P4) {P5:Prop} (p5:P5) {P6:Prop} (p6:P6) {P7:Prop} (p7:P7) {P8:Prop} (p8:P8) (b:B) (e:Ar l0→P1→P2→P3→P4→P5→P6→P7→P8→Hid B→A:=by intro x0 x1 x2 x3 x4 x5 x6 x7 x8 bZ;refine Yz Z5 x0.v ?_;simp only [push_cast,Nat.reduceAdd,Nat.reduceSub,Nat.reduceMul,Nat.reduceLeDiff,Nat.reduceLT,Nat.reduceEqDiff,↓reduceIte,reduceCtorEq,Int.reduceBEq,Int.reduceBNe,Nat.reduceBEq,Int.reduceLE,Int.reduceLT,Int.reduceEq,Int.reduceNe,Int.reduceNeg,Nat.reduceDiv,Nat.reduceMod,Nat.reducePow,Ze,Ar.v,x1,x2,x3,x4,x5,x6,x7,x8,hN0,hN];exact bZ.get):A:=e ⟨⟩ p1 p2 p3 p4 p5 p6 p7 p8 ⟨b⟩
theorem Z8c {A:Prop} {P0:Prop} (p0:P0) {P1:Prop} (p1:P1) {P2:Prop} (p2:P2) {P3:Prop} (p3:P3) {P4:Prop} (p4:P4) {P5:Prop} (p5:P5) {P6:Prop} (p6:P6) {P7:Prop} (p7:P7) (e:P0→P1→P2→P3→P4→P5→P6→P7→A:=by intro x0 x1 x2 x3 x4 x5 x6 x7;refine And.intro rfl (Fit2.of (Z6 hU rfl rfl ?_) (by omega));simp only [push_cast,seval,↓reduceIte,Ze,x0,x1,x2,x3,x4,x5,x6,x7,hN0,hN]):A:=e p0 p1 p2 p3 p4 p5 p6 p7
theorem Z6x {A:Prop} {P0:Prop} (p0:P0) (e:P0→A:=by intro x0;simp only [push_cast,seval,↓reduceIte,Ze,x0,hN0,hN]):A:=e p0
end Go.Proofs.Ytbjcopkgdjombaa
