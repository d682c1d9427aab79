/- Part VD of this seat's mirrors: functions of the seat's program, and the plain functions that they are; each theorem bears its own conditions. -/
import Derived.Test.YtocpndlnbmjpmaaH27
import Derived.Test.YtocpndlnbmjpmaaTy
namespace Go.Proofs.Ytocpndlnbmjpmaa
open Go.RowKit
set_option linter.unusedVariables false
set_option linter.unusedSimpArgs false
set_option maxRecDepth 100000
set_option maxHeartbeats 4000000
structure Zb where
 Kind:Int
 Words:(List Int)
 Kids:(List Zb)
noncomputable def Ki (Ky:(Zb→Int→Int→Option Int)) (a0:Zb) (a1:Int) (Yf:(Int×Int)):Option ((Int×Int) ⊕ Int) :=
 cond (cond (decide (Yf.2 < (a0.Kids.length:Int))) (decide (0≤Yf.1)) false) ((Qp a0.Kids Yf.2).bind fun x1=>(Ky x1 (IntKind.i64.wrap (a1 - 1)) Yf.1).bind fun y2=>some (.inl (y2,(IntKind.i64.wrap (Yf.2+1))))) (some (.inr Yf.1))
noncomputable def Kw (Ky:(Zb→Int→Int→Option Int)) (a0:Zb) (a1:Int) (a2:Int):Option Int :=
 cond (cond (a1 == 0) true (decide ((IntKind.i64.wrap ((IntKind.i64.wrap (a2 - 1)) - (a0.Words.length:Int))) < 0))) (some (-1)) ((Yx (Ki Ky a0 a1) ((IntKind.i64.wrap ((IntKind.i64.wrap (a2 - 1)) - (a0.Words.length:Int))),0)).bind fun (z4:Int)=>some z4)
noncomputable def Qd:Nat→(Zb→Int→Int→Option Int)
 | 0=>(fun _ _ _=>none)
 | k+1=>Kw ((Qd k))
noncomputable def U6 (a0:Zb) (a1:Int) (a2:Int):Option Int:=lim fun k=>(Qd k) a0 a1 a2
structure Zs where
 At:Int
 Mask:Int
 Old:Int
 New:Int
mutual
structure Zd where
 Kind:Int
 Old:Zb
 New:Zb
 Words:(List Zs)
 Kids:(List Zq)
 List_:Int
 Ops:(List Zo)
structure Zo where
 Kind:Int
 N:Int
 L:(List Zb)
 E:Zd
structure Zq where
 At:Int
 E:Zd
end
noncomputable def Vi (J4:(Zd→Int→Int→Option Int)) (a0:Zd) (a1:Int) (Yf:(Int×Int)):Option ((Int×Int) ⊕ Int) :=
 cond (cond (decide (Yf.2 < (a0.Kids.length:Int))) (decide (0≤Yf.1)) false) ((Qp a0.Kids Yf.2).bind fun x6=>(J4 x6.E (IntKind.i64.wrap (a1 - 1)) Yf.1).bind fun y8=>some (.inl (y8,(IntKind.i64.wrap (Yf.2+1))))) (some (.inr Yf.1))
noncomputable def xZ (a0:Zd) (xK:(Int×Int)) (s2_:(Int×Int)):Option ((Int×Int) ⊕ Int) :=
 (Qp a0.Ops xK.2).bind fun yH=>cond (cond (decide (s2_.2 < (yH.L.length:Int))) (decide (0≤s2_.1)) false) ((Qp a0.Ops xK.2).bind fun x16=>(Qp x16.L s2_.2).bind fun x18=>(U6 x18 80 s2_.1).bind fun y19=>some (.inl (y19,(IntKind.i64.wrap (s2_.2+1))))) (some (.inr s2_.1))
noncomputable def Vj (J4:(Zd→Int→Int→Option Int)) (a0:Zd) (a1:Int) (xK:(Int×Int)):Option ((Int×Int) ⊕ Int) :=
 cond (cond (decide (xK.2 < (a0.Ops.length:Int))) (decide (0≤xK.1)) false) (((Yx (xZ a0 xK) (xK.1,0)).bind fun (z21:Int)=>cond (decide (0≤z21)) ((Qp a0.Ops xK.2).bind fun x22=>(J4 x22.E (IntKind.i64.wrap (a1 - 1)) z21).bind fun y24=>some y24) (some z21)).bind fun (gO:Int)=>some (.inl (gO,(IntKind.i64.wrap (xK.2+1))))) (some (.inr xK.1))
noncomputable def V5 (J4:(Zd→Int→Int→Option Int)) (a0:Zd) (a1:Int) (a2:Int):Option Int :=
 cond (cond (a1 == 0) true (decide ((IntKind.i64.wrap ((IntKind.i64.wrap ((IntKind.i64.wrap (a2 - 1)) - (a0.Words.length:Int))) - (a0.Ops.length:Int))) < 0))) (some (-1)) ((U6 a0.Old 80 (IntKind.i64.wrap ((IntKind.i64.wrap ((IntKind.i64.wrap (a2 - 1)) - (a0.Words.length:Int))) - (a0.Ops.length:Int)))).bind fun y2=>(cond (decide (0≤y2)) ((U6 a0.New 80 y2).bind fun y4=>some y4) (some y2)).bind fun (z3:Int)=>(Yx (Vi J4 a0 a1) (z3,0)).bind fun (z10:Int)=>(Yx (Vj J4 a0 a1) (z10,0)).bind fun (z27:Int)=>some z27)
noncomputable def X1:Nat→(Zd→Int→Int→Option Int)
 | 0=>(fun _ _ _=>none)
 | k+1=>V5 ((X1 k))
noncomputable def jD (a0:Zd) (a1:Int) (a2:Int):Option Int:=lim fun k=>(X1 k) a0 a1 a2
noncomputable def rV (a0:Zd):Option Bool :=
 (jD a0 80 3000).bind fun y2=>some (decide (0≤y2))
noncomputable def Uf (a0:Zb):Option Bool :=
 some (cond (a0.Kind == 0) ((IntKind.i64.wrap ((a0.Words.length:Int)+(a0.Kids.length:Int))) == 0) false)
noncomputable def dC (a0:Int):Option Int :=
 cond (a0 == 0) (some 0) (cond (a0 == 1) (some 1) (cond (a0 == 2) (some 8) (cond (a0 == 3) (some 16) (cond (a0 == 4) (some 32) (cond (a0 == 5) (some 64) (some (-1)))))))
noncomputable def Kx (y2:Int) (Yf:(Int×Int)):Option ((Int×Int) ⊕ Int) :=
 cond (decide (Yf.2 < y2)) (some (.inl ((IntKind.u64.wrap (Int.tdiv Yf.1 2)),(IntKind.i64.wrap (Yf.2+1))))) (some (.inr Yf.1))
noncomputable def yY (a0:Int) (a1:Int):Option Bool :=
 (dC a0).bind fun y2=>cond (decide (y2 < 0)) (some false) ((Yx (Kx y2) (a1,0)).bind fun (z4:Int)=>some (z4 == 0))
noncomputable def G9 (Vq:(Zb→Int→Option Bool)) (a0:Zb) (a1:Int) (Yf:Int):Option (Int ⊕ (Unit ⊕ Unit)) :=
 cond (decide (Yf < (a0.Kids.length:Int))) ((Qp a0.Kids Yf).bind fun x2=>(Vq x2 (IntKind.i64.wrap (a1 - 1))).bind fun y4=>cond (!y4) (some (.inr (.inl ()))) ((cond ((cond (decide (2≤a0.Kind)) (decide (a0.Kind≤7)) false) != (x2.Kind == 10)) (some true) (cond (a0.Kind == 9) (cond (x2.Kind != 1) (some true) (cond (decide (2≤a0.Kind)) (cond (decide (a0.Kind≤7)) ((Qp x2.Words 0).bind fun yH=>(yY (IntKind.i64.wrap (a0.Kind - 2)) yH).bind fun y15=>some (cond (cond ((cond (decide (2≤a0.Kind)) (decide (a0.Kind≤7)) false) != (x2.Kind == 10)) true (cond (a0.Kind == 9) (x2.Kind != 1) false)) true (cond (cond (decide (2≤a0.Kind)) (decide (a0.Kind≤7)) false) (!y15) false))) (some (cond (cond ((cond (decide (2≤a0.Kind)) (decide (a0.Kind≤7)) false) != (x2.Kind == 10)) true (cond (a0.Kind == 9) (x2.Kind != 1) false)) true false))) (some (cond (cond ((cond (decide (2≤a0.Kind)) (decide (a0.Kind≤7)) false) != (x2.Kind == 10)) true (cond (a0.Kind == 9) (x2.Kind != 1) false)) true false)))) (cond (decide (2≤a0.Kind)) (cond (decide (a0.Kind≤7)) ((Qp x2.Words 0).bind fun x16=>(yY (IntKind.i64.wrap (a0.Kind - 2)) x16).bind fun y17=>some (cond (cond ((cond (decide (2≤a0.Kind)) (decide (a0.Kind≤7)) false) != (x2.Kind == 10)) true (cond (a0.Kind == 9) (x2.Kind != 1) false)) true (cond (cond (decide (2≤a0.Kind)) (decide (a0.Kind≤7)) false) (!y17) false))) (some (cond (cond ((cond (decide (2≤a0.Kind)) (decide (a0.Kind≤7)) false) != (x2.Kind == 10)) true (cond (a0.Kind == 9) (x2.Kind != 1) false)) true false))) (some (cond (cond ((cond (decide (2≤a0.Kind)) (decide (a0.Kind≤7)) false) != (x2.Kind == 10)) true (cond (a0.Kind == 9) (x2.Kind != 1) false)) true false))))).bind fun (z9:Bool)=>cond z9 (some (.inr (.inl ()))) (some (.inl (IntKind.i64.wrap (Yf+1)))))) (some (.inr (.inr ())))
noncomputable def xX (Vq:(Zb→Int→Option Bool)) (a0:Zb) (a1:Int):Option Bool :=
 cond (a0.Kind == 0) (some (cond ((a0.Words.length:Int) == 0) ((a0.Kids.length:Int) == 0) false)) (cond (a0.Kind == 10) (some (cond ((a0.Words.length:Int) == 1) ((a0.Kids.length:Int) == 0) false)) (cond (cond (cond (cond (cond (cond (decide (a0.Kind < 0)) true (decide (10 < a0.Kind))) true (a1 == 0)) true (decide (65536≤(a0.Words.length:Int)))) true (cond (a0.Kind == 1) (decide (65536≤(a0.Kids.length:Int))) false)) true (decide (1048576≤(a0.Kids.length:Int)))) (some false) (cond (cond (decide (1 < a0.Kind)) (decide (0 < (a0.Words.length:Int))) false) (some false) ((Yx (G9 Vq a0 a1) 0).bind fun (z28:(Unit ⊕ Unit))=>match z28 with | .inl z28=>some false | .inr z28=>some true))))
noncomputable def V2:Nat→(Zb→Int→Option Bool)
 | 0=>(fun _ _=>none)
 | k+1=>xX ((V2 k))
noncomputable def kJ (a0:Zb) (a1:Int):Option Bool:=lim fun k=>(V2 k) a0 a1
noncomputable def dZ (Yf:(Int×Int×(Arr Int 8))):Option ((Int×Int×(Arr Int 8)) ⊕ (Arr Int 8)) :=
 cond (decide (Yf.2.1 < 8)) ((Qp Yf.2.2.1 Yf.2.1).bind fun kO=>some (.inl ((IntKind.u64.wrap (Int.tdiv Yf.1 256)),(IntKind.i64.wrap (Yf.2.1+1)),(Arr.put Yf.2.2 Yf.2.1 (IntKind.u8.wrap (Int.tmod Yf.1 256)))))) (some (.inr Yf.2.2))
noncomputable def kZ (a0:Int):Option (Arr Int 8) :=
 ((some (⟨[0,0,0,0,0,0,0,0],rfl⟩:(Arr Int 8)))).bind fun y3=>((some (⟨[0,0,0,0,0,0,0,0],rfl⟩:(Arr Int 8)))).bind fun y9=>(Yx (dZ) (a0,0,y9)).bind fun (z18:(Arr Int 8))=>some z18
noncomputable def Um (a1:Int) (Yf:(Int×Int)):Option ((Int×Int) ⊕ Int) :=
 cond (decide (Yf.2 < a1)) (some (.inl ((IntKind.u8.wrap (Int.tdiv Yf.1 2)),(IntKind.i64.wrap (Yf.2+1))))) (some (.inr Yf.1))
noncomputable def iJ (a0:Int) (a1:Int):Option Bool :=
 (Yx (Um a1) (a0,0)).bind fun (z2:Int)=>some ((Int.tmod z2 2) == 1)
noncomputable def jJ (a0:(List Int)) (a1:Int) (Yf:(Int×Int)):Option ((Int×Int) ⊕ Int) :=
 cond (decide (0≤Yf.2)) ((Qp a0 (IntKind.i64.wrap (a1+Yf.2))).bind fun x1=>some (.inl ((IntKind.u64.wrap ((IntKind.u64.wrap (Yf.1 * 256))+(IntKind.u64.wrap x1))),(IntKind.i64.wrap (Yf.2 - 1))))) (some (.inr Yf.1))
noncomputable def xB (a0:(List Int)) (a1:Int):Option Int :=
 (Yx (jJ a0 a1) (0,7)).bind fun (z3:Int)=>some z3
noncomputable def oX (a2:Int) (y9:(Arr Int 8)) (Yf:(Int×(Arr Int 8))):Option ((Int×(Arr Int 8)) ⊕ (Arr Int 8)) :=
 cond (decide (Yf.1 < 8)) (((iJ a2 Yf.1).bind fun y17=>cond y17 ((Qp y9.1 Yf.1).bind fun x18=>(Qp Yf.2.1 Yf.1).bind fun nT=>some (Arr.put Yf.2 Yf.1 x18)) (some Yf.2)).bind fun (aM:(Arr Int 8))=>some (.inl ((IntKind.i64.wrap (Yf.1+1)),aM))) (some (.inr Yf.2))
noncomputable def qV (a0:Int) (a1:Int) (a2:Int):Option Int :=
 (kZ a0).bind fun y8=>(kZ a1).bind fun y9=>((some (⟨[0,0,0,0,0,0,0,0],rfl⟩:(Arr Int 8)))).bind fun vC=>(Yx (oX a2 y9) (0,y8)).bind fun (z23:(Arr Int 8))=>(xB z23.1 0).bind fun y29=>some y29
noncomputable def Gq (a0:Int) (a1:Int):Option Bool :=
 (qV a0 0 a1).bind fun y2=>some (y2 == 0)
noncomputable def aX (a0:Zd):Option Bool :=
 (cond (a0.Kind == 0) ((Uf a0.Old).bind fun y6=>cond y6 ((Uf a0.New).bind fun y7=>some (cond (cond (cond (cond (a0.Kind == 0) y6 false) y7 false) ((IntKind.i64.wrap ((IntKind.i64.wrap ((a0.Words.length:Int)+(a0.Kids.length:Int)))+(a0.Ops.length:Int))) == 0) false) (a0.List_ == 0) false)) (some false)) (some false)).bind fun (z3:Bool)=>some z3
noncomputable def U8 (a0:Zd) (Yf:(Int×Int×Int)):Option ((Int×Int×Int) ⊕ (Int×Int)) :=
 cond (decide (Yf.2.2 < (a0.Ops.length:Int))) (((Qp a0.Ops Yf.2.2).bind fun x3=>(cond (x3.Kind == 3) (some 1) (some (IntKind.i64.wrap (x3.N+(x3.L.length:Int))))).bind fun (z4:Int)=>(cond (x3.Kind != 2) (some (IntKind.i64.wrap (Yf.1+z4))) (some Yf.1)).bind fun (z6:Int)=>(cond (x3.Kind != 1) (some (IntKind.i64.wrap (Yf.2.1+z4))) (some Yf.2.1)).bind fun (z8:Int)=>(cond (decide (1048576 < z6)) (some 1048576) (some z6)).bind fun (z10:Int)=>cond (decide (1048576 < z8)) (some (z10,1048576)) (some (z10,z8))).bind fun (z1:(Int×Int))=>some (.inl (z1.1,z1.2,(IntKind.i64.wrap (Yf.2.2+1))))) (some (.inr (Yf.1,Yf.2.1)))
noncomputable def U7 (a0:Zd):Option (Int×Int) :=
 (Yx (U8 a0) (0,0,0)).bind fun (wV:(Int×Int))=>some (wV.1,wV.2)
noncomputable def Uk (a0:Zd) (Yf:(Int×Int)):Option ((Int×Int) ⊕ (Unit ⊕ Unit)) :=
 cond (decide (Yf.2 < (a0.Words.length:Int))) ((Qp a0.Words Yf.2).bind fun nT=>(cond (decide (nT.At≤Yf.1)) (some true) (cond (decide (65534 < nT.At)) (some true) (cond (nT.Mask == 0) (some true) ((Gq nT.Old nT.Mask).bind fun y25=>cond y25 ((Gq nT.New nT.Mask).bind fun y26=>some (cond (cond (cond (cond (decide (nT.At≤Yf.1)) true (decide (65534 < nT.At))) true (nT.Mask == 0)) true (!y25)) true (!y26))) (some true))))).bind fun (z22:Bool)=>cond z22 (some (.inr (.inl ()))) (some (.inl (nT.At,(IntKind.i64.wrap (Yf.2+1)))))) (some (.inr (.inr ())))
noncomputable def Ul (Q2:(Zd→Int→Option Bool)) (a0:Zd) (a1:Int) (xK:(Int×Int)):Option ((Int×Int) ⊕ (Unit ⊕ Unit)) :=
 cond (decide (xK.2 < (a0.Kids.length:Int))) ((Qp a0.Kids xK.2).bind fun x35=>(cond (decide (x35.At≤xK.1)) (some true) (cond (decide (65534 < x35.At)) (some true) (cond (x35.E.Kind == 0) (some true) ((Q2 x35.E (IntKind.i64.wrap (a1 - 1))).bind fun y39=>some (cond (cond (cond (decide (x35.At≤xK.1)) true (decide (65534 < x35.At))) true (x35.E.Kind == 0)) true (!y39)))))).bind fun (z37:Bool)=>cond z37 (some (.inr (.inl ()))) (some (.inl (x35.At,(IntKind.i64.wrap (xK.2+1)))))) (some (.inr (.inr ())))
noncomputable def Va (Kf:(Int→Zo→Int→Option Bool)) (a0:Zd) (a1:Int) (s2_:Int):Option (Int ⊕ (Unit ⊕ Unit)) :=
 cond (decide (s2_ < (a0.Ops.length:Int))) ((Qp a0.Ops s2_).bind fun x48=>(Kf a0.List_ x48 (IntKind.i64.wrap (a1 - 1))).bind fun y49=>cond (!y49) (some (.inr (.inl ()))) (some (.inl (IntKind.i64.wrap (s2_+1))))) (some (.inr (.inr ())))
noncomputable def zX (Q2:(Zd→Int→Option Bool)) (Kf:(Int→Zo→Int→Option Bool)) (a0:Zd) (a1:Int):Option Bool :=
 cond (cond (cond (a1 == 0) true (decide (a0.Kind < 0))) true (decide (3 < a0.Kind))) (some false) ((cond (a0.Kind != 1) ((Uf a0.Old).bind fun y6=>cond y6 ((Uf a0.New).bind fun y7=>some (cond (cond (cond (a0.Kind != 1) (!(cond y6 y7 false)) false) true (cond (a0.Kind != 2) (decide (0 < (IntKind.i64.wrap ((a0.Words.length:Int)+(a0.Kids.length:Int))))) false)) true (cond (a0.Kind != 3) (cond (a0.List_ != 0) true (decide (0 < (a0.Ops.length:Int)))) false))) (some true)) (some (cond (cond (a0.Kind != 2) (decide (0 < (IntKind.i64.wrap ((a0.Words.length:Int)+(a0.Kids.length:Int))))) false) true (cond (a0.Kind != 3) (cond (a0.List_ != 0) true (decide (0 < (a0.Ops.length:Int)))) false)))).bind fun (z3:Bool)=>cond z3 (some false) (cond (a0.Kind == 1) (((kJ a0.Old 64).bind fun y15=>cond y15 ((kJ a0.New 64).bind fun y16=>some (cond (cond (cond y15 y16 false) (a0.Old.Kind != 10) false) (a0.New.Kind != 10) false)) (some false)).bind fun (eU:Bool)=>some eU) ((Yx (Uk a0) ((-1),0)).bind fun (z33:(Unit ⊕ Unit))=>match z33 with | .inl z33=>some false | .inr z33=>(Yx (Ul Q2 a0 a1) ((-1),0)).bind fun (z45:(Unit ⊕ Unit))=>match z45 with | .inl z45=>some false | .inr z45=>cond (cond (a0.Kind == 3) (cond (decide (a0.List_ < 2)) true (decide (9 < a0.List_))) false) (some false) ((Yx (Va Kf a0 a1) 0).bind fun (z52:(Unit ⊕ Unit))=>match z52 with | .inl z52=>some false | .inr z52=>(U7 a0).bind fun y54=>some (cond (decide (y54.1 < 1048576)) (decide (y54.2 < 1048576)) false)))))
noncomputable def aQ (a0:Int) (a1:Zo) (Yf:Int):Option (Int ⊕ (Unit ⊕ Unit)) :=
 cond (decide (Yf < (a1.L.length:Int))) ((iG a1.L Yf (IntKind.i64.wrap (Yf+1))).bind fun l10=>(kJ (⟨a0,[],l10⟩:Zb) 64).bind fun y11=>cond (!y11) (some (.inr (.inl ()))) (some (.inl (IntKind.i64.wrap (Yf+1))))) (some (.inr (.inr ())))
noncomputable def qU (Q2:(Zd→Int→Option Bool)) (Kf:(Int→Zo→Int→Option Bool)) (a0:Int) (a1:Zo) (a2:Int):Option Bool :=
 cond (a1.Kind == 0) ((cond (decide (1≤a1.N)) (cond (decide (a1.N≤1048576)) (cond ((a1.L.length:Int) == 0) ((aX a1.E).bind fun y4=>some (cond (cond (cond (decide (1≤a1.N)) (decide (a1.N≤1048576)) false) ((a1.L.length:Int) == 0) false) y4 false)) (some false)) (some false)) (some false)).bind fun (z2:Bool)=>some z2) (cond (cond (cond (a1.N != 0) true (decide (a1.Kind < 0))) true (decide (3 < a1.Kind))) (some false) (cond (decide (a1.Kind < 3)) ((Yx (aQ a0 a1) 0).bind fun (wV:(Unit ⊕ Unit))=>match wV with | .inl wV=>some false | .inr wV=>(cond (decide (0 < (a1.L.length:Int))) ((aX a1.E).bind fun y18=>some (cond (decide (0 < (a1.L.length:Int))) y18 false)) (some false)).bind fun (z16:Bool)=>some z16) ((cond (decide (0 < (a1.L.length:Int))) (some true) (cond (a1.E.Kind == 0) (some true) (cond (decide (a0≤7)) (some true) ((Q2 a1.E a2).bind fun y23=>some (cond (cond (cond (decide (0 < (a1.L.length:Int))) true (a1.E.Kind == 0)) true (decide (a0≤7))) true (!y23)))))).bind fun (z21:Bool)=>cond z21 (some false) (some (cond (cond (a0 == 8) true (a1.E.Kind == 2)) true (cond (cond (a1.E.Kind == 1) (a1.E.Old.Kind == 1) false) (a1.E.New.Kind == 1) false))))))
noncomputable def Xu:Nat→((Zd→Int→Option Bool)×(Int→Zo→Int→Option Bool))
 | 0=>((fun _ _=>none),(fun _ _ _=>none))
 | k+1=>(zX ((Xu k).1) ((Xu k).2),qU ((Xu k).1) ((Xu k).2))
noncomputable def fC (a0:Zd) (a1:Int):Option Bool:=lim fun k=>(Xu k).1 a0 a1
noncomputable def aZ (Jq:(Zd→Option Bool)) (a0:Zd) (Yf:Int):Option (Int ⊕ (Unit ⊕ Unit)) :=
 cond (decide (Yf < (a0.Kids.length:Int))) ((Qp a0.Kids Yf).bind fun x6=>(Jq x6.E).bind fun y8=>cond (!y8) (some (.inr (.inl ()))) (some (.inl (IntKind.i64.wrap (Yf+1))))) (some (.inr (.inr ())))
noncomputable def cZ (Jq:(Zd→Option Bool)) (a0:Zd) (xK:Int):Option (Int ⊕ (Unit ⊕ Unit)) :=
 cond (decide (xK < (a0.Ops.length:Int))) ((Qp a0.Ops xK).bind fun kO=>(Jq kO.E).bind fun y17=>cond (!y17) (some (.inr (.inl ()))) (some (.inl (IntKind.i64.wrap (xK+1))))) (some (.inr (.inr ())))
noncomputable def yX (Jq:(Zd→Option Bool)) (a0:Zd):Option Bool :=
 (U7 a0).bind fun y2=>cond (cond (decide (2000 < y2.1)) true (decide (2000 < y2.2))) (some false) ((Yx (aZ Jq a0) 0).bind fun (gO:(Unit ⊕ Unit))=>match gO with | .inl gO=>some false | .inr gO=>(Yx (cZ Jq a0) 0).bind fun (z20:(Unit ⊕ Unit))=>match z20 with | .inl z20=>some false | .inr z20=>some true)
noncomputable def V3:Nat→(Zd→Option Bool)
 | 0=>(fun _=>none)
 | k+1=>yX ((V3 k))
noncomputable def eC (a0:Zd):Option Bool:=lim fun k=>(V3 k) a0
noncomputable def zY (a0:Zd):Option Bool :=
 ((rV a0).bind fun y8=>cond y8 ((fC a0 64).bind fun y9=>cond y9 ((eC a0).bind fun vC=>some (cond (cond y8 y9 false) vC false)) (some false)) (some false)).bind fun (z4:Bool)=>some z4
noncomputable def pX (a0:(List Int)) (Yf:Int):Option (Int ⊕ Int) :=
 (cond (decide (0 < Yf)) ((Qp a0 (IntKind.i64.wrap (Yf - 1))).bind fun x4=>some (cond (decide (0 < Yf)) (x4 == 0) false)) (some false)).bind fun (z2:Bool)=>cond z2 (some (.inl (IntKind.i64.wrap (Yf - 1)))) (some (.inr Yf))
noncomputable def mZ (a0:(List Int)):Option (List Int) :=
 (Yx (pX a0) (a0.length:Int)).bind fun (z7:Int)=>(iG a0 0 z7).bind fun l9=>some l9
noncomputable def nJ (a0:(List Zb)) (Yf:Int):Option (Int ⊕ Int) :=
 (cond (decide (0 < Yf)) ((Qp a0 (IntKind.i64.wrap (Yf - 1))).bind fun x6=>some (cond (decide (0 < Yf)) (x6.Kind == 0) false)) (some false)).bind fun (z3:Bool)=>cond z3 (some (.inl (IntKind.i64.wrap (Yf - 1)))) (some (.inr Yf))
noncomputable def kX (a0:(List Zb)):Option (List Zb) :=
 (Yx (nJ a0) (a0.length:Int)).bind fun (z10:Int)=>(iG a0 0 z10).bind fun l12=>some l12
noncomputable def jV (cU:(Zb→Option Zb)) (z1:((List Int)×(List Zb))) (Yf:(Int×(List Zb))):Option ((Int×(List Zb)) ⊕ (List Zb)) :=
 cond (decide (Yf.1 < (z1.2.length:Int))) ((Qp z1.2 Yf.1).bind fun x9=>(cU x9).bind fun vC=>(Qp Yf.2 Yf.1).bind fun sH=>some (.inl ((IntKind.i64.wrap (Yf.1+1)),(sP Yf.2 Yf.1 vC)))) (some (.inr Yf.2))
noncomputable def iF (cU:(Zb→Option Zb)) (a0:Zb):Option Zb :=
 cond (a0.Kind == 0) (some (⟨0,[],[]⟩:Zb)) ((cond (a0.Kind == 1) ((mZ a0.Words).bind fun y2=>(kX a0.Kids).bind fun y3=>some (y2,y3)) (some (a0.Words,a0.Kids))).bind fun (z1:((List Int)×(List Zb)))=>(cond (decide (0 < (z1.2.length:Int))) ((Zbf 56 (z1.2.length:Int) (⟨(0:Int),[],[]⟩:Zb)).bind fun l6=>some l6) (some ([]:List Zb))).bind fun (z5:(List Zb))=>(Yx (jV cU z1) (0,z5)).bind fun (wV:(List Zb))=>some (⟨a0.Kind,z1.1,wV⟩:Zb))
noncomputable def uX:Nat→(Zb→Option Zb)
 | 0=>(fun _=>none)
 | k+1=>iF ((uX k))
noncomputable def zV (a0:Zb):Option Zb:=lim fun k=>(uX k) a0
noncomputable def Vc (a0:List Zs):Option (List Zs) :=
 jK 32 ([]:List Zs) a0
structure Y3 where
 out:(List Zo)
 kept:Int
 gone:(List Zb)
 come:(List Zb)
noncomputable def Jv (a0:Y3):Option Y3 :=
 (cond (decide (0 < a0.kept)) ((jK 240 a0.out ([(⟨0,0,[],⟨0,⟨0,[],[]⟩,⟨0,[],[]⟩,[],[],0,[]⟩⟩:Zo)]:List Zo)).bind fun l2=>(Qp l2 (a0.out.length:Int)).bind fun x3=>some (a0.out++[(⟨0,a0.kept,[],⟨0,⟨0,[],[]⟩,⟨0,[],[]⟩,[],[],0,[]⟩⟩:Zo)])) (some a0.out)).bind fun (z1:(List Zo))=>(cond (decide (0 < (a0.gone.length:Int))) ((jK 240 z1 ([(⟨0,0,[],⟨0,⟨0,[],[]⟩,⟨0,[],[]⟩,[],[],0,[]⟩⟩:Zo)]:List Zo)).bind fun l9=>(Qp l9 (z1.length:Int)).bind fun dB=>some ((z1++[(⟨1,0,a0.gone,⟨0,⟨0,[],[]⟩,⟨0,[],[]⟩,[],[],0,[]⟩⟩:Zo)]),a0.gone)) (some (z1,a0.gone))).bind fun (z6:((List Zo)×(List Zb)))=>(cond (decide (0 < (a0.come.length:Int))) ((jK 240 z6.1 ([(⟨0,0,[],⟨0,⟨0,[],[]⟩,⟨0,[],[]⟩,[],[],0,[]⟩⟩:Zo)]:List Zo)).bind fun l16=>(Qp l16 (z6.1.length:Int)).bind fun x17=>some ((z6.1++[(⟨2,0,a0.come,⟨0,⟨0,[],[]⟩,⟨0,[],[]⟩,[],[],0,[]⟩⟩:Zo)]),a0.come)) (some (z6.1,a0.come))).bind fun (z13:((List Zo)×(List Zb)))=>some (⟨z13.1,0,[],[]⟩:Y3)
noncomputable def Ga (a0:Y3) (a1:Int):Option Y3 :=
 (cond (a0.kept == 0) ((Jv (⟨a0.out,a0.kept,a0.gone,a0.come⟩:Y3)).bind fun y2=>some (y2.out,y2.gone,y2.come,y2.kept)) (some (a0.out,a0.gone,a0.come,a0.kept))).bind fun (z1:((List Zo)×(List Zb)×(List Zb)×Int))=>some (⟨z1.1,(IntKind.i64.wrap (z1.2.2.2+a1)),z1.2.1,z1.2.2.1⟩:Y3)
noncomputable def Ve (a2:(List Zb)) (Yf:(Int×(List Zb))):Option ((Int×(List Zb)) ⊕ (List Zb)) :=
 cond (decide (Yf.1 < (a2.length:Int))) ((Qp a2 Yf.1).bind fun x5=>(zV x5).bind fun y6=>(jK 56 Yf.2 ([(⟨0,[],[]⟩:Zb)]:List Zb)).bind fun l7=>(Qp l7 (Yf.2.length:Int)).bind fun x8=>some (.inl ((IntKind.i64.wrap (Yf.1+1)),(Yf.2++[y6])))) (some (.inr Yf.2))
noncomputable def Ur (a0:Y3) (a2:(List Zb)):Option Y3 :=
 (cond (decide (0 < a0.kept)) ((Jv (⟨a0.out,a0.kept,a0.gone,a0.come⟩:Y3)).bind fun y2=>some (y2.out,y2.gone,y2.come,y2.kept)) (some (a0.out,a0.gone,a0.come,a0.kept))).bind fun (z1:((List Zo)×(List Zb)×(List Zb)×Int))=>(Yx (Ve a2) (0,z1.2.1)).bind fun (gO:(List Zb))=>some (⟨z1.1,z1.2.2.2,gO,z1.2.2.1⟩:Y3)
noncomputable def Vf (a2:(List Zb)) (Yf:(Int×(List Zb))):Option ((Int×(List Zb)) ⊕ (List Zb)) :=
 cond (decide (Yf.1 < (a2.length:Int))) ((Qp a2 Yf.1).bind fun x5=>(zV x5).bind fun y6=>(jK 56 Yf.2 ([(⟨0,[],[]⟩:Zb)]:List Zb)).bind fun l7=>(Qp l7 (Yf.2.length:Int)).bind fun x8=>some (.inl ((IntKind.i64.wrap (Yf.1+1)),(Yf.2++[y6])))) (some (.inr Yf.2))
noncomputable def Us (a0:Y3) (a2:(List Zb)):Option Y3 :=
 (cond (decide (0 < a0.kept)) ((Jv (⟨a0.out,a0.kept,a0.gone,a0.come⟩:Y3)).bind fun y2=>some (y2.out,y2.gone,y2.come,y2.kept)) (some (a0.out,a0.gone,a0.come,a0.kept))).bind fun (z1:((List Zo)×(List Zb)×(List Zb)×Int))=>(Yx (Vf a2) (0,z1.2.2.1)).bind fun (gO:(List Zb))=>some (⟨z1.1,z1.2.2.2,z1.2.1,gO⟩:Y3)
noncomputable def tB (a0:Int) (a1:Zd):Option Bool :=
 some (cond (a1.Kind == 0) true (cond (cond (a0 == 9) (a1.Kind == 2) false) ((IntKind.i64.wrap ((a1.Words.length:Int)+(a1.Kids.length:Int))) == 0) false))
noncomputable def U9 (a0:Y3) (a1:Int) (a2:Zd):Option Y3 :=
 (tB a1 a2).bind fun y2=>cond y2 ((Ga (⟨a0.out,a0.kept,a0.gone,a0.come⟩:Y3) 1).bind fun y4=>some (⟨y4.out,y4.kept,y4.gone,y4.come⟩:Y3)) ((Jv (⟨a0.out,a0.kept,a0.gone,a0.come⟩:Y3)).bind fun y6=>(jK 240 y6.out ([(⟨0,0,[],⟨0,⟨0,[],[]⟩,⟨0,[],[]⟩,[],[],0,[]⟩⟩:Zo)]:List Zo)).bind fun l7=>(Qp l7 (y6.out.length:Int)).bind fun x8=>some (⟨(y6.out++[(⟨3,0,[],a2⟩:Zo)]),y6.kept,y6.gone,y6.come⟩:Y3))
noncomputable def iV (J8:(Zd→Option Zd)) (a0:Zd) (Yf:(Int×(List Zq))):Option ((Int×(List Zq)) ⊕ (List Zq)) :=
 cond (decide (Yf.1 < (a0.Kids.length:Int))) ((Qp a0.Kids Yf.1).bind fun x8=>(J8 x8.E).bind fun y9=>(jK 208 Yf.2 ([(⟨x8.At,y9⟩:Zq)]:List Zq)).bind fun l10=>some (.inl ((IntKind.i64.wrap (Yf.1+1)),l10))) (some (.inr Yf.2))
noncomputable def nB (J8:(Zd→Option Zd)) (tZ:(Int→(List Zo)→Option (List Zo))) (a0:Zd):Option Zd :=
 cond (a0.Kind == 1) ((zV a0.Old).bind fun y3=>(zV a0.New).bind fun y4=>some (⟨1,y3,y4,[],[],0,[]⟩:Zd)) (cond (a0.Kind == 2) ((Vc a0.Words).bind fun y6=>(Yx (iV J8 a0) (0,([]:List Zq))).bind fun (eU:(List Zq))=>some (⟨2,⟨0,[],[]⟩,⟨0,[],[]⟩,y6,eU,0,[]⟩:Zd)) (cond (a0.Kind == 3) ((tZ a0.List_ a0.Ops).bind fun y14=>some (⟨3,⟨0,[],[]⟩,⟨0,[],[]⟩,[],[],a0.List_,y14⟩:Zd)) (some (⟨0,⟨0,[],[]⟩,⟨0,[],[]⟩,[],[],0,[]⟩:Zd))))
noncomputable def gX (J8:(Zd→Option Zd)) (a0:Int) (a1:(List Zo)) (Yf:(Int×Int×(List Zo)×(List Zb)×(List Zb))):Option ((Int×Int×(List Zo)×(List Zb)×(List Zb)) ⊕ (Int×(List Zo)×(List Zb)×(List Zb))) :=
 cond (decide (Yf.1 < (a1.length:Int))) (((Qp a1 Yf.1).bind fun x3=>cond (x3.Kind == 0) ((Ga (⟨Yf.2.2.1,Yf.2.1,Yf.2.2.2.1,Yf.2.2.2.2⟩:Y3) x3.N).bind fun y4=>some (y4.kept,y4.out,y4.gone,y4.come)) (cond (x3.Kind == 1) ((Ur (⟨Yf.2.2.1,Yf.2.1,Yf.2.2.2.1,Yf.2.2.2.2⟩:Y3) x3.L).bind fun y5=>some (y5.kept,y5.out,y5.gone,y5.come)) (cond (x3.Kind == 2) ((Us (⟨Yf.2.2.1,Yf.2.1,Yf.2.2.2.1,Yf.2.2.2.2⟩:Y3) x3.L).bind fun y6=>some (y6.kept,y6.out,y6.gone,y6.come)) (cond (x3.Kind == 3) ((J8 x3.E).bind fun y7=>(U9 (⟨Yf.2.2.1,Yf.2.1,Yf.2.2.2.1,Yf.2.2.2.2⟩:Y3) a0 y7).bind fun y8=>some (y8.kept,y8.out,y8.gone,y8.come)) (some (Yf.2.1,Yf.2.2.1,Yf.2.2.2.1,Yf.2.2.2.2)))))).bind fun (z1:(Int×(List Zo)×(List Zb)×(List Zb)))=>some (.inl ((IntKind.i64.wrap (Yf.1+1)),z1.1,z1.2.1,z1.2.2.1,z1.2.2.2))) (some (.inr (Yf.2.1,Yf.2.2.1,Yf.2.2.2.1,Yf.2.2.2.2)))
noncomputable def sA (J8:(Zd→Option Zd)) (tZ:(Int→(List Zo)→Option (List Zo))) (a0:Int) (a1:(List Zo)):Option (List Zo) :=
 (Yx (gX J8 a0 a1) (0,0,([]:List Zo),([]:List Zb),([]:List Zb))).bind fun (wV:(Int×(List Zo)×(List Zb)×(List Zb)))=>(Jv (⟨wV.2.1,wV.1,wV.2.2.1,wV.2.2.2⟩:Y3)).bind fun y16=>some y16.out
noncomputable def J0:Nat→((Zd→Option Zd)×(Int→(List Zo)→Option (List Zo)))
 | 0=>((fun _=>none),(fun _ _=>none))
 | k+1=>(nB ((J0 k).1) ((J0 k).2),sA ((J0 k).1) ((J0 k).2))
noncomputable def Gf (a0:Zd):Option Zd:=lim fun k=>(J0 k).1 a0
noncomputable def J9 (a0:(List Int)) (a1:(List Int)) (Yf:Int):Option (Int ⊕ (Unit ⊕ Unit)) :=
 cond (decide (Yf < (a0.length:Int))) ((Qp a0 Yf).bind fun x3=>(Qp a1 Yf).bind fun x4=>cond (x3 != x4) (some (.inr (.inl ()))) (some (.inl (IntKind.i64.wrap (Yf+1))))) (some (.inr (.inr ())))
noncomputable def Jy (a0:(List Int)) (a1:(List Int)):Option Bool :=
 cond ((a0.length:Int) != (a1.length:Int)) (some false) ((Yx (J9 a0 a1) 0).bind fun (z7:(Unit ⊕ Unit))=>match z7 with | .inl z7=>some false | .inr z7=>some true)
noncomputable def xC (Uu:(Zb→Zb→Option Bool)) (Yu:((List Zb)→(List Zb)→Option Bool)) (a0:Zb) (a1:Zb):Option Bool :=
 cond (a0.Kind != a1.Kind) (some false) (cond (a0.Kind == 0) (some true) (cond (a0.Kind == 1) (((mZ a0.Words).bind fun y14=>(mZ a1.Words).bind fun y15=>(Jy y14 y15).bind fun y16=>cond y16 ((kX a0.Kids).bind fun y17=>(kX a1.Kids).bind fun y18=>(Yu y17 y18).bind fun y19=>some (cond y16 y19 false)) (some false)).bind fun (z7:Bool)=>some z7) (((Jy a0.Words a1.Words).bind fun y26=>cond y26 ((Yu a0.Kids a1.Kids).bind fun y27=>some (cond y26 y27 false)) (some false)).bind fun (z23:Bool)=>some z23)))
noncomputable def Xl (Uu:(Zb→Zb→Option Bool)) (a0:(List Zb)) (a1:(List Zb)) (Yf:Int):Option (Int ⊕ (Unit ⊕ Unit)) :=
 cond (decide (Yf < (a0.length:Int))) ((Qp a0 Yf).bind fun x2=>(Qp a1 Yf).bind fun x4=>(Uu x2 x4).bind fun y6=>cond (!y6) (some (.inr (.inl ()))) (some (.inl (IntKind.i64.wrap (Yf+1))))) (some (.inr (.inr ())))
noncomputable def Xp (Uu:(Zb→Zb→Option Bool)) (Yu:((List Zb)→(List Zb)→Option Bool)) (a0:(List Zb)) (a1:(List Zb)):Option Bool :=
 cond ((a0.length:Int) != (a1.length:Int)) (some false) ((Yx (Xl Uu a0 a1) 0).bind fun (z9:(Unit ⊕ Unit))=>match z9 with | .inl z9=>some false | .inr z9=>some true)
noncomputable def Ju:Nat→((Zb→Zb→Option Bool)×((List Zb)→(List Zb)→Option Bool))
 | 0=>((fun _ _=>none),(fun _ _=>none))
 | k+1=>(xC ((Ju k).1) ((Ju k).2),Xp ((Ju k).1) ((Ju k).2))
noncomputable def kD (a0:Zb) (a1:Zb):Option Bool:=lim fun k=>(Ju k).1 a0 a1
noncomputable def Y8 (a0:(List Zb)) (a1:(List Zb)):Option Bool:=lim fun k=>(Ju k).2 a0 a1
noncomputable def jX (a0:List Int):Option (List Int) :=
 jK 8 ([]:List Int) a0
noncomputable def Gl (a0:List Zb):Option (List Zb) :=
 jK 56 ([]:List Zb) a0
noncomputable def cH (a0:Zb) (a1:Int):Option Int :=
 cond (cond (decide (a1 < 0)) true (decide ((a0.Words.length:Int)≤a1))) (some 0) ((Qp a0.Words a1).bind fun x2=>some x2)
noncomputable def dK (a0:Int):Option Bool :=
 some (cond (decide (a0 < 0)) true (decide (65534 < a0)))
noncomputable def fA (a0:Int) (Yf:(Int×Int)):Option ((Int×Int) ⊕ Int) :=
 cond (decide (Yf.2 < 8)) (((Zdr (0≤Yf.2)).bind fun u3=>cond ((IntKind.u8.wrap (nX .u8 (Int.fdiv a0 (2 ^ min (Int.toNat Yf.2) 8)) 1)) == 1) ((Zdr (0≤(IntKind.i64.wrap (8 * Yf.2)))).bind fun u4=>some (IntKind.u64.wrap (Zk8 .u64 Yf.1 (IntKind.u64.wrap (255 * 2 ^ min (Int.toNat (IntKind.i64.wrap (8 * Yf.2))) 64))))) (some Yf.1)).bind fun (z1:Int)=>some (.inl (z1,(IntKind.i64.wrap (Yf.2+1))))) (some (.inr Yf.1))
noncomputable def gY (a0:Int):Option Int :=
 (Yx (fA a0) (0,0)).bind fun (z7:Int)=>some z7
noncomputable def pE (a0:Int) (a1:Int) (a2:Int):Option Int :=
 (gY a2).bind fun y2=>some (IntKind.u64.wrap (Zk8 .u64 (IntKind.u64.wrap (Zak .u64 a0 y2)) (IntKind.u64.wrap (nX .u64 a1 y2))))
noncomputable def hJ (a1:Int) (a2:Int) (Yf:(List Int)):Option ((List Int) ⊕ (List Int)) :=
 cond (cond (decide ((Yf.length:Int)≤a1)) (a2 != 0) false) ((jK 8 Yf ([0]:List Int)).bind fun l1=>some (.inl l1)) (some (.inr Yf))
noncomputable def sU (a0:Zb) (a1:Int) (a2:Int):Option Zb :=
 (Yx (hJ a1 a2) a0.Words).bind fun (z3:(List Int))=>cond (decide (a1 < (z3.length:Int))) ((Qp z3 a1).bind fun x4=>some (⟨a0.Kind,(sP z3 a1 a2),a0.Kids⟩:Zb)) (some (⟨a0.Kind,z3,a0.Kids⟩:Zb))
noncomputable def vN (a0:Zb) (a1:Int):Option Zb :=
 cond (cond (decide (a1 < 0)) true (decide ((a0.Kids.length:Int)≤a1))) (some (⟨0,[],[]⟩:Zb)) ((Qp a0.Kids a1).bind fun x2=>some x2)
noncomputable def oK (a1:Int) (a2:Zb) (Yf:(List Zb)):Option ((List Zb) ⊕ (List Zb)) :=
 cond (cond (decide ((Yf.length:Int)≤a1)) (a2.Kind != 0) false) ((jK 56 Yf ([(⟨0,[],[]⟩:Zb)]:List Zb)).bind fun l1=>(Qp l1 (Yf.length:Int)).bind fun x2=>some (.inl (Yf++[(⟨0,[],[]⟩:Zb)]))) (some (.inr Yf))
noncomputable def eA (a0:Zb) (a1:Int) (a2:Zb):Option Zb :=
 (Yx (oK a1 a2) a0.Kids).bind fun (z5:(List Zb))=>cond (decide (a1 < (z5.length:Int))) ((Qp z5 a1).bind fun x6=>some (⟨a0.Kind,a0.Words,(sP z5 a1 a2)⟩:Zb)) (some (⟨a0.Kind,a0.Words,z5⟩:Zb))
noncomputable def bH (a0:Int):Option Bool :=
 some (cond (decide (2≤a0)) (decide (a0≤9)) false)
structure Zt where
 left:(List Zb)
 out:(List Zb)
noncomputable def pZ (Qe:(Zd→Zb→Option (Zb×Bool))) (Xn:(Zd→Zb→Option (Zb×Bool))) (Q0:(Zd→Zb→Option (Zb×Bool))) (Xc:(Zt→Zo→Option (Bool×Zt))) (Y5:(Zt→Zd→Option (Bool×Zt))) (a0:Zd) (a1:Zb):Option (Zb×Bool) :=
 cond (a0.Kind == 0) (some (a1,true)) (cond (a0.Kind == 1) ((kD a1 a0.Old).bind fun y2=>some (a0.New,y2)) (cond (a0.Kind == 2) ((Xn a0 a1).bind fun y4=>some (y4.1,y4.2)) (cond (a0.Kind == 3) ((Q0 a0 a1).bind fun y6=>some (y6.1,y6.2)) (some ((⟨0,[],[]⟩:Zb),false)))))
noncomputable def Vh (a0:Zd) (a1:Zb) (Yf:(Int×Int×(List Int)×(List Zb))):Option ((Int×Int×(List Int)×(List Zb)) ⊕ (Unit ⊕ (Int×(List Int)×(List Zb)))) :=
 cond (decide (Yf.1 < (a0.Words.length:Int))) ((Qp a0.Words Yf.1).bind fun Zqe=>(cH a1 Zqe.At).bind fun Z3z=>((dK Zqe.At).bind fun Zd9=>cond Zd9 (some true) ((gY Zqe.Mask).bind fun Ycj=>some (cond Zd9 true ((IntKind.u64.wrap (nX .u64 (IntKind.u64.wrap (xD .u64 Z3z Zqe.Old)) Ycj)) != 0)))).bind fun (Z34:Bool)=>cond Z34 (some (.inr (.inl ()))) ((pE Z3z Zqe.New Zqe.Mask).bind fun Yck=>(sU (⟨Yf.2.1,Yf.2.2.1,Yf.2.2.2⟩:Zb) Zqe.At Yck).bind fun Z30=>some (.inl ((IntKind.i64.wrap (Yf.1+1)),Z30.Kind,Z30.Words,Z30.Kids)))) (some (.inr (.inr (Yf.2.1,Yf.2.2.1,Yf.2.2.2))))
noncomputable def Kv (Qe:(Zd→Zb→Option (Zb×Bool))) (a0:Zd) (a1:Zb) (xK:(Int×Int×(List Int)×(List Zb))):Option ((Int×Int×(List Int)×(List Zb)) ⊕ (Unit ⊕ (Int×(List Int)×(List Zb)))) :=
 cond (decide (xK.1 < (a0.Kids.length:Int))) ((Qp a0.Kids xK.1).bind fun Z11=>(vN a1 Z11.At).bind fun Ycl=>(Qe Z11.E Ycl).bind fun Z31=>(dK Z11.At).bind fun Z7e=>cond (cond Z7e true (!Z31.2)) (some (.inr (.inl ()))) ((eA (⟨xK.2.1,xK.2.2.1,xK.2.2.2⟩:Zb) Z11.At Z31.1).bind fun Z32=>some (.inl ((IntKind.i64.wrap (xK.1+1)),Z32.Kind,Z32.Words,Z32.Kids)))) (some (.inr (.inr (xK.2.1,xK.2.2.1,xK.2.2.2))))
noncomputable def pY (Qe:(Zd→Zb→Option (Zb×Bool))) (Xn:(Zd→Zb→Option (Zb×Bool))) (Q0:(Zd→Zb→Option (Zb×Bool))) (Xc:(Zt→Zo→Option (Bool×Zt))) (Y5:(Zt→Zd→Option (Bool×Zt))) (a0:Zd) (a1:Zb):Option (Zb×Bool) :=
 cond (a1.Kind != 1) (some ((⟨0,[],[]⟩:Zb),false)) ((jX a1.Words).bind fun y25=>(Gl a1.Kids).bind fun y61=>(Yx (Vh a0 a1) (0,1,y25,y61)).bind fun (tD:(Unit ⊕ (Int×(List Int)×(List Zb))))=>match tD with | .inl tD=>some ((⟨0,[],[]⟩:Zb),false) | .inr tD=>(Yx (Kv Qe a0 a1) (0,tD.1,tD.2.1,tD.2.2)).bind fun (tH:(Unit ⊕ (Int×(List Int)×(List Zb))))=>match tH with | .inl tH=>some ((⟨0,[],[]⟩:Zb),false) | .inr tH=>some ((⟨tH.1,tH.2.1,tH.2.2⟩:Zb),true))
noncomputable def Gu (Xc:(Zt→Zo→Option (Bool×Zt))) (a0:Zd) (Yf:(Int×(List Zb)×(List Zb))):Option ((Int×(List Zb)×(List Zb)) ⊕ (Unit ⊕ ((List Zb)×(List Zb)))) :=
 cond (decide (Yf.1 < (a0.Ops.length:Int))) ((Qp a0.Ops Yf.1).bind fun x7=>(Xc (⟨Yf.2.1,Yf.2.2⟩:Zt) x7).bind fun y9=>cond (!y9.1) (some (.inr (.inl ()))) (some (.inl ((IntKind.i64.wrap (Yf.1+1)),y9.2.left,y9.2.out)))) (some (.inr (.inr (Yf.2.1,Yf.2.2))))
noncomputable def rA (Qe:(Zd→Zb→Option (Zb×Bool))) (Xn:(Zd→Zb→Option (Zb×Bool))) (Q0:(Zd→Zb→Option (Zb×Bool))) (Xc:(Zt→Zo→Option (Bool×Zt))) (Y5:(Zt→Zd→Option (Bool×Zt))) (a0:Zd) (a1:Zb):Option (Zb×Bool) :=
 (cond (a1.Kind != a0.List_) (some true) ((bH a1.Kind).bind fun y4=>some (cond (a1.Kind != a0.List_) true (!y4)))).bind fun (z2:Bool)=>cond z2 (some ((⟨0,[],[]⟩:Zb),false)) ((Yx (Gu Xc a0) (0,a1.Kids,([]:List Zb))).bind fun (eU:(Unit ⊕ ((List Zb)×(List Zb))))=>match eU with | .inl eU=>some ((⟨0,[],[]⟩:Zb),false) | .inr eU=>some ((⟨a1.Kind,[],eU.2⟩:Zb),((eU.1.length:Int) == 0)))
noncomputable def mX (Qe:(Zd→Zb→Option (Zb×Bool))) (Xn:(Zd→Zb→Option (Zb×Bool))) (Q0:(Zd→Zb→Option (Zb×Bool))) (Xc:(Zt→Zo→Option (Bool×Zt))) (Y5:(Zt→Zd→Option (Bool×Zt))) (a0:Zt) (a1:Zo):Option (Bool×Zt) :=
 cond (a1.Kind == 0) ((cond (decide (a1.N < 0)) (some true) (some (cond (decide (a1.N < 0)) true (decide ((a0.left.length:Int) < a1.N))))).bind fun (z1:Bool)=>cond z1 (some (false,(⟨a0.left,a0.out⟩:Zt))) ((iG a0.left 0 a1.N).bind fun l5=>(jK 56 a0.out l5).bind fun l6=>(iG a0.left a1.N (a0.left.length:Int)).bind fun l8=>some (true,(⟨l8,l6⟩:Zt)))) (cond (a1.Kind == 1) ((cond (decide ((a0.left.length:Int) < (a1.L.length:Int))) (some true) ((iG a0.left 0 (a1.L.length:Int)).bind fun l15=>(Y8 l15 a1.L).bind fun y16=>some (cond (decide ((a0.left.length:Int) < (a1.L.length:Int))) true (!y16)))).bind fun (eU:Bool)=>cond eU (some (false,(⟨a0.left,a0.out⟩:Zt))) ((iG a0.left (a1.L.length:Int) (a0.left.length:Int)).bind fun l19=>some (true,(⟨l19,a0.out⟩:Zt)))) (cond (a1.Kind == 2) ((jK 56 a0.out a1.L).bind fun l22=>some (true,(⟨a0.left,l22⟩:Zt))) (cond (a1.Kind == 3) ((Y5 (⟨a0.left,a0.out⟩:Zt) a1.E).bind fun y24=>some (y24.1,(⟨y24.2.left,y24.2.out⟩:Zt))) (some (false,(⟨a0.left,a0.out⟩:Zt))))))
noncomputable def Gi (Qe:(Zd→Zb→Option (Zb×Bool))) (Xn:(Zd→Zb→Option (Zb×Bool))) (Q0:(Zd→Zb→Option (Zb×Bool))) (Xc:(Zt→Zo→Option (Bool×Zt))) (Y5:(Zt→Zd→Option (Bool×Zt))) (a0:Zt) (a1:Zd):Option (Bool×Zt) :=
 cond ((a0.left.length:Int) == 0) (some (false,(⟨a0.left,a0.out⟩:Zt))) ((Qp a0.left 0).bind fun x3=>(Qe a1 x3).bind fun y4=>(jK 56 a0.out ([(⟨0,[],[]⟩:Zb)]:List Zb)).bind fun l8=>(Qp l8 (a0.out.length:Int)).bind fun x9=>(iG a0.left 1 (a0.left.length:Int)).bind fun l12=>some (y4.2,(⟨l12,(a0.out++[y4.1])⟩:Zt)))
noncomputable def Yh:Nat→((Zd→Zb→Option (Zb×Bool))×(Zd→Zb→Option (Zb×Bool))×(Zd→Zb→Option (Zb×Bool))×(Zt→Zo→Option (Bool×Zt))×(Zt→Zd→Option (Bool×Zt)))
 | 0=>((fun _ _=>none),(fun _ _=>none),(fun _ _=>none),(fun _ _=>none),(fun _ _=>none))
 | k+1=>(pZ ((Yh k).1) ((Yh k).2.1) ((Yh k).2.2.1) ((Yh k).2.2.2.1) ((Yh k).2.2.2.2),pY ((Yh k).1) ((Yh k).2.1) ((Yh k).2.2.1) ((Yh k).2.2.2.1) ((Yh k).2.2.2.2),rA ((Yh k).1) ((Yh k).2.1) ((Yh k).2.2.1) ((Yh k).2.2.2.1) ((Yh k).2.2.2.2),mX ((Yh k).1) ((Yh k).2.1) ((Yh k).2.2.1) ((Yh k).2.2.2.1) ((Yh k).2.2.2.2),Gi ((Yh k).1) ((Yh k).2.1) ((Yh k).2.2.1) ((Yh k).2.2.2.1) ((Yh k).2.2.2.2))
noncomputable def gM (a0:Zd) (a1:Zb):Option (Zb×Bool):=lim fun k=>(Yh k).1 a0 a1
noncomputable def J3 (a0:Zd) (a1:Zb):Option (Zb×Bool) :=
 (gM a0 a1).bind fun y2=>cond (!y2.2) (some ((⟨0,[],[]⟩:Zb),false)) ((zV y2.1).bind fun y4=>some (y4,true))
structure Zg where
 apart:Bool
 clash:Bool
noncomputable def Gb (a1:Zd) (a2:Zd) (Yy:Zg):Option Zg :=
 (J3 a2 a1.Old).bind fun y2=>cond (!y2.2) (some (⟨true,Yy.clash⟩:Zg)) ((kD y2.1 a1.New).bind fun y4=>cond (!y4) (some (⟨Yy.apart,true⟩:Zg)) (some Yy))
noncomputable def sZ (a1:Zd) (a2:Zd) (Yy:Zg):Option Zg :=
 (J3 a2 a1.Old).bind fun y2=>cond (!y2.2) (some (⟨true,Yy.clash⟩:Zg)) ((kD y2.1 a1.New).bind fun y4=>cond (!y4) (some (⟨Yy.apart,true⟩:Zg)) (some Yy))
structure Zi where
 mover:(Option Zg)
 left:Zd
 come:(List Zb)
noncomputable def Jf (a1:Zd):Option Zi :=
 some (⟨(none:Option Zg),⟨a1.Kind,⟨0,[],[]⟩,⟨0,[],[]⟩,[],[],a1.List_,[]⟩,[]⟩:Zi)
noncomputable def mJ (a0:Zi) (a1:Zs) (a2:Zs) (Yy:Zg):Option (Zs×Zi×Zg) :=
 (gY (IntKind.u8.wrap (nX .u8 a1.Mask a2.Mask))).bind fun y2=>(gY (IntKind.u8.wrap (Zak .u8 a1.Mask a2.Mask))).bind fun y5=>(gY (IntKind.u8.wrap (Zak .u8 a1.Mask a2.Mask))).bind fun y6=>some ((⟨a1.At,(IntKind.u8.wrap (Zak .u8 a1.Mask a2.Mask)),(IntKind.u64.wrap (nX .u64 a1.Old y5)),(IntKind.u64.wrap (nX .u64 a1.New y6))⟩:Zs),a0,(⟨(cond Yy.apart true ((IntKind.u64.wrap (nX .u64 (IntKind.u64.wrap (xD .u64 a1.Old a2.Old)) y2)) != 0)),(cond Yy.clash true ((IntKind.u64.wrap (nX .u64 (IntKind.u64.wrap (xD .u64 a1.New a2.New)) y2)) != 0))⟩:Zg))
noncomputable def K6 (x3:Zs) (xK:(List Zs)):Option ((List Zs) ⊕ (List Zs)) :=
 (cond (decide (0 < (xK.length:Int))) ((Qp xK 0).bind fun x9=>some (cond (decide (0 < (xK.length:Int))) (decide (x9.At < x3.At)) false)) (some false)).bind fun (z6:Bool)=>cond z6 ((iG xK 1 (xK.length:Int)).bind fun l12=>some (.inl l12)) (some (.inr xK))
noncomputable def K5 (a1:(List Zs)) (Yf:((List Zs)×Int×Zi×Bool×Bool)):Option (((List Zs)×Int×Zi×Bool×Bool) ⊕ ((List Zs)×(List Zq)×(List Zo)×(List Zb)×Zi×Bool×Bool)) :=
 cond (decide (Yf.2.1 < (a1.length:Int))) (((Qp a1 Yf.2.1).bind fun x3=>(Yx (K6 x3) Yf.1).bind fun (wV:(List Zs))=>((cond (decide (0 < (wV.length:Int))) ((Qp wV 0).bind fun x21=>some (cond (decide (0 < (wV.length:Int))) (x21.At == x3.At) false)) (some false)).bind fun (z18:Bool)=>cond z18 ((Qp wV 0).bind fun x24=>(mJ Yf.2.2.1 x3 x24 (⟨Yf.2.2.2.1,Yf.2.2.2.2⟩:Zg)).bind fun y25=>some (y25.1.At,y25.1.Mask,y25.1.Old,y25.1.New,y25.2.1,y25.2.2.apart,y25.2.2.clash)) (some (x3.At,x3.Mask,x3.Old,x3.New,Yf.2.2.1,Yf.2.2.2.1,Yf.2.2.2.2))).bind fun (aM:(Int×Int×Int×Int×Zi×Bool×Bool))=>cond (aM.2.1 != 0) ((jK 32 aM.2.2.2.2.1.left.Words ([(⟨aM.1,aM.2.1,aM.2.2.1,aM.2.2.2.1⟩:Zs)]:List Zs)).bind fun l27=>some (wV,l27,aM.2.2.2.2.1.left.Kids,aM.2.2.2.2.1.left.Ops,aM.2.2.2.2.1.come,(⟨(none:Option Zg),⟨aM.2.2.2.2.1.left.Kind,⟨aM.2.2.2.2.1.left.Old.Kind,aM.2.2.2.2.1.left.Old.Words,aM.2.2.2.2.1.left.Old.Kids⟩,⟨aM.2.2.2.2.1.left.New.Kind,aM.2.2.2.2.1.left.New.Words,aM.2.2.2.2.1.left.New.Kids⟩,l27,aM.2.2.2.2.1.left.Kids,aM.2.2.2.2.1.left.List_,aM.2.2.2.2.1.left.Ops⟩,aM.2.2.2.2.1.come⟩:Zi),aM.2.2.2.2.2.1,aM.2.2.2.2.2.2)) (some (wV,aM.2.2.2.2.1.left.Words,aM.2.2.2.2.1.left.Kids,aM.2.2.2.2.1.left.Ops,aM.2.2.2.2.1.come,aM.2.2.2.2.1,aM.2.2.2.2.2.1,aM.2.2.2.2.2.2))).bind fun (z1:((List Zs)×(List Zs)×(List Zq)×(List Zo)×(List Zb)×Zi×Bool×Bool))=>some (.inl (z1.1,(IntKind.i64.wrap (Yf.2.1+1)),(⟨(none:Option Zg),⟨z1.2.2.2.2.2.1.left.Kind,⟨z1.2.2.2.2.2.1.left.Old.Kind,z1.2.2.2.2.2.1.left.Old.Words,z1.2.2.2.2.2.1.left.Old.Kids⟩,⟨z1.2.2.2.2.2.1.left.New.Kind,z1.2.2.2.2.2.1.left.New.Words,z1.2.2.2.2.2.1.left.New.Kids⟩,z1.2.1,z1.2.2.1,z1.2.2.2.2.2.1.left.List_,z1.2.2.2.1⟩,z1.2.2.2.2.1⟩:Zi),z1.2.2.2.2.2.2.1,z1.2.2.2.2.2.2.2))) (some (.inr (Yf.2.2.1.left.Words,Yf.2.2.1.left.Kids,Yf.2.2.1.left.Ops,Yf.2.2.1.come,Yf.2.2.1,Yf.2.2.2.1,Yf.2.2.2.2)))
noncomputable def Gs (a0:Zi) (a1:(List Zs)) (a2:(List Zs)) (Yy:Zg):Option (Zi×Zg) :=
 (Yx (K5 a1) (a2,0,a0,Yy.apart,Yy.clash)).bind fun (lM:((List Zs)×(List Zq)×(List Zo)×(List Zb)×Zi×Bool×Bool))=>some ((⟨(none:Option Zg),⟨lM.2.2.2.2.1.left.Kind,⟨lM.2.2.2.2.1.left.Old.Kind,lM.2.2.2.2.1.left.Old.Words,lM.2.2.2.2.1.left.Old.Kids⟩,⟨lM.2.2.2.2.1.left.New.Kind,lM.2.2.2.2.1.left.New.Words,lM.2.2.2.2.1.left.New.Kids⟩,lM.1,lM.2.1,lM.2.2.2.2.1.left.List_,lM.2.2.1⟩,lM.2.2.2.1⟩:Zi),(⟨lM.2.2.2.2.2.1,lM.2.2.2.2.2.2⟩:Zg))
noncomputable def lJ (a0:Zi) (a1:Int) (a2:Zd) (Yy:Zg):Option (Zi×Zg) :=
 cond (a2.Kind != 0) ((jK 208 a0.left.Kids ([(⟨0,⟨0,⟨0,[],[]⟩,⟨0,[],[]⟩,[],[],0,[]⟩⟩:Zq)]:List Zq)).bind fun l1=>(Qp l1 (a0.left.Kids.length:Int)).bind fun x2=>some ((⟨(none:Option Zg),⟨a0.left.Kind,a0.left.Old,a0.left.New,a0.left.Words,(a0.left.Kids++[(⟨a1,a2⟩:Zq)]),a0.left.List_,a0.left.Ops⟩,a0.come⟩:Zi),Yy)) (some (a0,Yy))
noncomputable def cX (a0:Zi) (a1:Int) (a2:Zd) (Yy:Zg):Option (Zi×Zg) :=
 cond (a2.Kind != 0) ((jK 208 a0.left.Kids ([(⟨0,⟨0,⟨0,[],[]⟩,⟨0,[],[]⟩,[],[],0,[]⟩⟩:Zq)]:List Zq)).bind fun l1=>(Qp l1 (a0.left.Kids.length:Int)).bind fun x2=>some ((⟨(none:Option Zg),⟨a0.left.Kind,a0.left.Old,a0.left.New,a0.left.Words,(a0.left.Kids++[(⟨a1,a2⟩:Zq)]),a0.left.List_,a0.left.Ops⟩,a0.come⟩:Zi),Yy)) (some (a0,Yy))
noncomputable def fY (a0:Zo):Option Bool :=
 some (a0.Kind != 0)
noncomputable def Xq (a0:(List Zo)) (Yf:Int):Option (Int ⊕ (Int ⊕ Unit)) :=
 cond (decide (Yf < (a0.length:Int))) ((Qp a0 Yf).bind fun x3=>(fY x3).bind fun y4=>cond y4 (some (.inr (.inl Yf))) (some (.inl (IntKind.i64.wrap (Yf+1))))) (some (.inr (.inr ())))
noncomputable def Qt (a0:(List Zo)):Option Int :=
 (Yx (Xq a0) 0).bind fun (z7:(Int ⊕ Unit))=>match z7 with | .inl z7=>some z7 | .inr z7=>some (-1)
noncomputable def Y9 (a0:(List Zo)):Option Bool :=
 (Qt a0).bind fun y2=>some (decide (0≤y2))
noncomputable def Jg (a0:Zi) (Yy:Zg):Option (Zd×Zi×Zg) :=
 (cond ((IntKind.i64.wrap ((a0.left.Words.length:Int)+(a0.left.Kids.length:Int))) == 0) ((Y9 a0.left.Ops).bind fun y4=>some (cond ((IntKind.i64.wrap ((a0.left.Words.length:Int)+(a0.left.Kids.length:Int))) == 0) (!y4) false)) (some false)).bind fun (z2:Bool)=>cond z2 (some ((⟨0,⟨0,[],[]⟩,⟨0,[],[]⟩,[],[],0,[]⟩:Zd),a0,Yy)) (some (a0.left,a0,Yy))
noncomputable def iD (a0:Zo):Option Int :=
 cond (a0.Kind == 0) (some a0.N) ((cond (a0.Kind == 1) (some (a0.Kind == 1)) (some (a0.Kind == 2))).bind fun (z1:Bool)=>cond z1 (some (a0.L.length:Int)) (some 1))
structure Ji where
 left:(List Zo)
 gone:Int
noncomputable def K3 (Yf:((List Zo)×Int)):Option (((List Zo)×Int) ⊕ ((Int×Int×(List Zo)×Int) ⊕ ((List Zo)×Int))) :=
 cond (decide (0 < (Yf.1.length:Int))) ((Qp Yf.1 0).bind fun x3=>(iD x3).bind fun y4=>cond (decide (0 < (IntKind.i64.wrap (y4 - Yf.2)))) ((Qp Yf.1 0).bind fun x7=>some (.inr (.inl (x7.Kind,(IntKind.i64.wrap (y4 - Yf.2)),Yf.1,Yf.2)))) ((iG Yf.1 1 (Yf.1.length:Int)).bind fun l9=>some (.inl (l9,0)))) (some (.inr (.inr (Yf.1,Yf.2))))
noncomputable def K9 (a0:Ji):Option (Int×Int×Ji) :=
 (Yx (K3) (a0.left,a0.gone)).bind fun (eU:((Int×Int×(List Zo)×Int) ⊕ ((List Zo)×Int)))=>match eU with | .inl eU=>some (eU.1,eU.2.1,(⟨eU.2.2.1,eU.2.2.2⟩:Ji)) | .inr eU=>some (0,0,(⟨eU.1,eU.2⟩:Ji))
noncomputable def Ke (a0:Ji) (a1:Int):Option (Zo×Ji) :=
 (Qp a0.left 0).bind fun x2=>(cond (x2.Kind == 0) (some (a1,x2.L)) ((cond (x2.Kind == 1) (some (x2.Kind == 1)) (some (x2.Kind == 2))).bind fun (z4:Bool)=>cond z4 ((iG x2.L a0.gone (IntKind.i64.wrap (a0.gone+a1))).bind fun l6=>some (x2.N,l6)) (some (x2.N,x2.L)))).bind fun (z3:(Int×(List Zb)))=>some ((⟨x2.Kind,z3.1,z3.2,x2.E⟩:Zo),(⟨a0.left,(IntKind.i64.wrap (a0.gone+a1))⟩:Ji))
structure Yw where
 Of:Int
 P:Zo
 Q:Zo
noncomputable def X3 (a2:Int) (a3:Int) (Yf:((List Zo)×Int×(List Zo)×Int×(List Yw))):Option (((List Zo)×Int×(List Zo)×Int×(List Yw)) ⊕ ((List Yw)×Bool)) :=
 (K9 (⟨Yf.1,Yf.2.1⟩:Ji)).bind fun y2=>(K9 (⟨Yf.2.2.1,Yf.2.2.2.1⟩:Ji)).bind fun y4=>cond (cond (decide (0 < y2.2.1)) (y2.1 == a2) false) ((Ke y2.2.2 y2.2.1).bind fun y5=>(jK 488 Yf.2.2.2.2 ([(⟨1,y5.1,⟨0,0,[],⟨0,⟨0,[],[]⟩,⟨0,[],[]⟩,[],[],0,[]⟩⟩⟩:Yw)]:List Yw)).bind fun l6=>some (.inl (y5.2.left,y5.2.gone,y4.2.2.left,y4.2.2.gone,l6))) (cond (cond (decide (0 < y4.2.1)) (y4.1 == a3) false) ((Ke y4.2.2 y4.2.1).bind fun y7=>(jK 488 Yf.2.2.2.2 ([(⟨2,⟨0,0,[],⟨0,⟨0,[],[]⟩,⟨0,[],[]⟩,[],[],0,[]⟩⟩,y7.1⟩:Yw)]:List Yw)).bind fun l8=>some (.inl (y2.2.2.left,y2.2.2.gone,y7.2.left,y7.2.gone,l8))) (cond (cond (y2.2.1 == 0) (y4.2.1 == 0) false) (some (.inr (Yf.2.2.2.2,true))) (cond (cond (y2.2.1 == 0) true (y4.2.1 == 0)) (some (.inr (([]:(List Yw)),false))) ((Ke y2.2.2 (if y4.2.1 < y2.2.1 then y4.2.1 else y2.2.1)).bind fun y9=>(Ke y4.2.2 (if y4.2.1 < y2.2.1 then y4.2.1 else y2.2.1)).bind fun vC=>(jK 488 Yf.2.2.2.2 ([(⟨0,y9.1,vC.1⟩:Yw)]:List Yw)).bind fun l11=>some (.inl (y9.2.left,y9.2.gone,vC.2.left,vC.2.gone,l11))))))
noncomputable def dA (a0:(List Zo)) (a1:(List Zo)) (a2:Int) (a3:Int):Option ((List Yw)×Bool) :=
 (Yx (X3 a2 a3) (a0,0,a1,0,([]:List Yw))).bind fun (z16:((List Yw)×Bool))=>some (z16.1,z16.2)
noncomputable def Jp (a0:(List Zo)) (a1:(List Zo)):Option ((List Yw)×Bool) :=
 (dA a0 a1 2 2).bind fun y2=>some (y2.1,y2.2)
noncomputable def rK (a0:Zi) (a1:Zo) (Yy:Zg):Option (Zi×Zg) :=
 (jK 240 a0.left.Ops ([(⟨0,0,[],⟨0,⟨0,[],[]⟩,⟨0,[],[]⟩,[],[],0,[]⟩⟩:Zo)]:List Zo)).bind fun l1=>(Qp l1 (a0.left.Ops.length:Int)).bind fun x2=>some ((⟨(none:Option Zg),⟨a0.left.Kind,a0.left.Old,a0.left.New,a0.left.Words,a0.left.Kids,a0.left.List_,(a0.left.Ops++[a1])⟩,a0.come⟩:Zi),Yy)
noncomputable def bX (a0:Zi) (a1:(List Zb)) (Yy:Zg):Option (Zi×Zg) :=
 cond (decide (0 < (a1.length:Int))) ((rK a0 (⟨0,(a1.length:Int),[],⟨0,⟨0,[],[]⟩,⟨0,[],[]⟩,[],[],0,[]⟩⟩:Zo) Yy).bind fun y1=>some (y1.1,y1.2)) (cond (decide (0 < (a0.come.length:Int))) ((rK a0 (⟨2,0,a0.come,⟨0,⟨0,[],[]⟩,⟨0,[],[]⟩,[],[],0,[]⟩⟩:Zo) Yy).bind fun y2=>some (y2.1,y2.2)) (some (a0,Yy)))
noncomputable def K4 (a1:Zi) (a2:Zi) (Yy:Zg):Option (Zi×Zi×Zg) :=
 ((cond (decide (0 < (a1.come.length:Int))) (cond (decide (0 < (a2.come.length:Int))) ((Y8 a1.come a2.come).bind fun y5=>some (cond (cond (decide (0 < (a1.come.length:Int))) (decide (0 < (a2.come.length:Int))) false) (!y5) false)) (some false)) (some false)).bind fun (z3:Bool)=>cond z3 (some true) (some Yy.clash)).bind fun (z1:Bool)=>(bX (⟨(none:Option Zg),⟨a1.left.Kind,a1.left.Old,a1.left.New,a1.left.Words,a1.left.Kids,a1.left.List_,a1.left.Ops⟩,a1.come⟩:Zi) a2.come (⟨Yy.apart,z1⟩:Zg)).bind fun vC=>(bX (⟨(none:Option Zg),⟨a2.left.Kind,a2.left.Old,a2.left.New,a2.left.Words,a2.left.Kids,a2.left.List_,a2.left.Ops⟩,a2.come⟩:Zi) vC.1.come vC.2).bind fun y12=>some ((⟨(none:Option Zg),⟨vC.1.left.Kind,vC.1.left.Old,vC.1.left.New,vC.1.left.Words,vC.1.left.Kids,vC.1.left.List_,vC.1.left.Ops⟩,[]⟩:Zi),(⟨(none:Option Zg),⟨y12.1.left.Kind,y12.1.left.Old,y12.1.left.New,y12.1.left.Words,y12.1.left.Kids,y12.1.left.List_,y12.1.left.Ops⟩,[]⟩:Zi),y12.2)
noncomputable def lZ (a0:Zi) (a1:Zo) (Yy:Zg):Option (Zi×Zg) :=
 (jK 240 a0.left.Ops ([(⟨0,0,[],⟨0,⟨0,[],[]⟩,⟨0,[],[]⟩,[],[],0,[]⟩⟩:Zo)]:List Zo)).bind fun l1=>(Qp l1 (a0.left.Ops.length:Int)).bind fun x2=>some ((⟨(none:Option Zg),⟨a0.left.Kind,a0.left.Old,a0.left.New,a0.left.Words,a0.left.Kids,a0.left.List_,(a0.left.Ops++[a1])⟩,a0.come⟩:Zi),Yy)
noncomputable def Un (a0:Zi) (a1:Zd) (Yy:Zg):Option (Zi×Zg) :=
 cond (a1.Kind == 0) ((lZ a0 (⟨0,1,[],⟨0,⟨0,[],[]⟩,⟨0,[],[]⟩,[],[],0,[]⟩⟩:Zo) Yy).bind fun y2=>some (y2.1,y2.2)) ((lZ a0 (⟨3,0,[],a1⟩:Zo) Yy).bind fun y3=>some (y3.1,y3.2))
noncomputable def lG (a0:Zi) (a1:Zo) (Yy:Zg):Option (Zi×Zg) :=
 (jK 240 a0.left.Ops ([(⟨0,0,[],⟨0,⟨0,[],[]⟩,⟨0,[],[]⟩,[],[],0,[]⟩⟩:Zo)]:List Zo)).bind fun l1=>(Qp l1 (a0.left.Ops.length:Int)).bind fun x2=>some ((⟨(none:Option Zg),⟨a0.left.Kind,a0.left.Old,a0.left.New,a0.left.Words,a0.left.Kids,a0.left.List_,(a0.left.Ops++[a1])⟩,a0.come⟩:Zi),Yy)
noncomputable def Vp (a0:Zi) (a1:Zo) (a2:Zo) (Yy:Zg):Option (Zi×Zg) :=
 cond (a2.Kind == 0) ((lZ a0 a1 Yy).bind fun y1=>some (y1.1,y1.2)) (cond (cond (a1.Kind == 0) (a2.Kind == 3) false) ((lG a0 (⟨0,1,[],⟨0,⟨0,[],[]⟩,⟨0,[],[]⟩,[],[],0,[]⟩⟩:Zo) Yy).bind fun y2=>some (y2.1,y2.2)) (cond (cond (a1.Kind == 1) (a2.Kind == 1) false) (cond Yy.apart (some (a0,(⟨true,Yy.clash⟩:Zg))) ((Y8 a1.L a2.L).bind fun y3=>some (a0,(⟨(cond Yy.apart true (!y3)),Yy.clash⟩:Zg)))) (cond (cond (a1.Kind == 1) (a2.Kind == 3) false) ((Qp a1.L 0).bind fun x7=>(J3 a2.E x7).bind fun y8=>cond Yy.apart (some (a0,(⟨true,true⟩:Zg))) (some (a0,(⟨(cond Yy.apart true (!y8.2)),true⟩:Zg)))) (some (a0,Yy)))))
noncomputable def Xo (Xa:(Zd→Zd→Zg→Option (Zd×Zd×Zg))) (Y6:(Zd→Zd→Zg→Option (Zd×Zd×Zg))) (Xf:(Zd→Zd→Zg→Option (Zd×Zd×Zg))) (Xh:(Zi→Zi→(List Zq)→(List Zq)→Zg→Option (Zi×Zi×Zg))) (Xd:(Zi→Zi→Zo→Zo→Zg→Option (Zi×Zi×Zg))) (a1:Zd) (a2:Zd) (Yy:Zg):Option (Zd×Zd×Zg) :=
 (cond (cond (a1.Kind == 0) true (a2.Kind == 0)) (some (.inr (a1.Kind,a1.Old.Kind,a1.Old.Words,a1.Old.Kids,a1.New.Kind,a1.New.Words,a1.New.Kids,a1.Words,a1.Kids,a1.List_,a1.Ops,a2.Kind,a2.Old.Kind,a2.Old.Words,a2.Old.Kids,a2.New.Kind,a2.New.Words,a2.New.Kids,a2.Words,a2.Kids,a2.List_,a2.Ops,Yy.apart,Yy.clash))) (cond (a1.Kind == 1) ((Gb a1 a2 Yy).bind fun y2=>some (.inl (y2.apart,y2.clash))) (cond (a2.Kind == 1) ((sZ a2 a1 Yy).bind fun y3=>some (.inl (y3.apart,y3.clash))) (cond (cond (a1.Kind == 2) (a2.Kind == 2) false) ((Y6 a1 a2 Yy).bind fun y5=>some (.inr (y5.1.Kind,y5.1.Old.Kind,y5.1.Old.Words,y5.1.Old.Kids,y5.1.New.Kind,y5.1.New.Words,y5.1.New.Kids,y5.1.Words,y5.1.Kids,y5.1.List_,y5.1.Ops,y5.2.1.Kind,y5.2.1.Old.Kind,y5.2.1.Old.Words,y5.2.1.Old.Kids,y5.2.1.New.Kind,y5.2.1.New.Words,y5.2.1.New.Kids,y5.2.1.Words,y5.2.1.Kids,y5.2.1.List_,y5.2.1.Ops,y5.2.2.apart,y5.2.2.clash))) (cond (cond (cond (a1.Kind == 3) (a2.Kind == 3) false) (a1.List_ == a2.List_) false) ((Xf a1 a2 Yy).bind fun y7=>some (.inr (y7.1.Kind,y7.1.Old.Kind,y7.1.Old.Words,y7.1.Old.Kids,y7.1.New.Kind,y7.1.New.Words,y7.1.New.Kids,y7.1.Words,y7.1.Kids,y7.1.List_,y7.1.Ops,y7.2.1.Kind,y7.2.1.Old.Kind,y7.2.1.Old.Words,y7.2.1.Old.Kids,y7.2.1.New.Kind,y7.2.1.New.Words,y7.2.1.New.Kids,y7.2.1.Words,y7.2.1.Kids,y7.2.1.List_,y7.2.1.Ops,y7.2.2.apart,y7.2.2.clash))) (some (.inl (true,Yy.clash)))))))).bind fun (z1:((Bool×Bool) ⊕ (Int×Int×(List Int)×(List Zb)×Int×(List Int)×(List Zb)×(List Zs)×(List Zq)×Int×(List Zo)×Int×Int×(List Int)×(List Zb)×Int×(List Int)×(List Zb)×(List Zs)×(List Zq)×Int×(List Zo)×Bool×Bool)))=>match z1 with | .inl z1=>some ((⟨0,⟨0,[],[]⟩,⟨0,[],[]⟩,[],[],0,[]⟩:Zd),(⟨0,⟨0,[],[]⟩,⟨0,[],[]⟩,[],[],0,[]⟩:Zd),(⟨z1.1,z1.2⟩:Zg)) | .inr z1=>some ((⟨z1.1,⟨z1.2.1,z1.2.2.1,z1.2.2.2.1⟩,⟨z1.2.2.2.2.1,z1.2.2.2.2.2.1,z1.2.2.2.2.2.2.1⟩,z1.2.2.2.2.2.2.2.1,z1.2.2.2.2.2.2.2.2.1,z1.2.2.2.2.2.2.2.2.2.1,z1.2.2.2.2.2.2.2.2.2.2.1⟩:Zd),(⟨z1.2.2.2.2.2.2.2.2.2.2.2.1,⟨z1.2.2.2.2.2.2.2.2.2.2.2.2.1,z1.2.2.2.2.2.2.2.2.2.2.2.2.2.1,z1.2.2.2.2.2.2.2.2.2.2.2.2.2.2.1⟩,⟨z1.2.2.2.2.2.2.2.2.2.2.2.2.2.2.2.1,z1.2.2.2.2.2.2.2.2.2.2.2.2.2.2.2.2.1,z1.2.2.2.2.2.2.2.2.2.2.2.2.2.2.2.2.2.1⟩,z1.2.2.2.2.2.2.2.2.2.2.2.2.2.2.2.2.2.2.1,z1.2.2.2.2.2.2.2.2.2.2.2.2.2.2.2.2.2.2.2.1,z1.2.2.2.2.2.2.2.2.2.2.2.2.2.2.2.2.2.2.2.2.1,z1.2.2.2.2.2.2.2.2.2.2.2.2.2.2.2.2.2.2.2.2.2.1⟩:Zd),(⟨z1.2.2.2.2.2.2.2.2.2.2.2.2.2.2.2.2.2.2.2.2.2.2.1,z1.2.2.2.2.2.2.2.2.2.2.2.2.2.2.2.2.2.2.2.2.2.2.2⟩:Zg))
noncomputable def K1 (Xa:(Zd→Zd→Zg→Option (Zd×Zd×Zg))) (Y6:(Zd→Zd→Zg→Option (Zd×Zd×Zg))) (Xf:(Zd→Zd→Zg→Option (Zd×Zd×Zg))) (Xh:(Zi→Zi→(List Zq)→(List Zq)→Zg→Option (Zi×Zi×Zg))) (Xd:(Zi→Zi→Zo→Zo→Zg→Option (Zi×Zi×Zg))) (a1:Zd) (a2:Zd) (Yy:Zg):Option (Zd×Zd×Zg) :=
 (Jf a1).bind fun y25=>(Jf a2).bind fun y61=>(Gs y25 a1.Words a2.Words Yy).bind fun y98=>(Gs y61 a2.Words a1.Words y98.2).bind fun Z7d=>(Xh y98.1 Z7d.1 a1.Kids a2.Kids Z7d.2).bind fun uJ=>(Jg (⟨(none:Option Zg),⟨uJ.1.left.Kind,uJ.1.left.Old,uJ.1.left.New,uJ.1.left.Words,uJ.1.left.Kids,uJ.1.left.List_,uJ.1.left.Ops⟩,uJ.1.come⟩:Zi) uJ.2.2).bind fun Zm8=>(Jg (⟨(none:Option Zg),⟨uJ.2.1.left.Kind,uJ.2.1.left.Old,uJ.2.1.left.New,uJ.2.1.left.Words,uJ.2.1.left.Kids,uJ.2.1.left.List_,uJ.2.1.left.Ops⟩,uJ.2.1.come⟩:Zi) Zm8.2.2).bind fun Zuv=>some (Zm8.1,Zuv.1,Zuv.2.2)
noncomputable def Xx (Xd:(Zi→Zi→Zo→Zo→Zg→Option (Zi×Zi×Zg))) (y2:((List Yw)×Bool)) (Yf:(Int×Zi×Zi×Bool×Bool)):Option ((Int×Zi×Zi×Bool×Bool) ⊕ (Zi×Zi×(List Zs)×(List Zq)×(List Zo)×(List Zb)×(List Zs)×(List Zq)×(List Zo)×(List Zb)×Bool×Bool)) :=
 cond (decide (Yf.1 < (y2.1.length:Int))) (((Qp y2.1 Yf.1).bind fun Zih=>cond (Zih.Of == 1) ((jK 56 Yf.2.1.come Zih.P.L).bind fun Z99=>some ((⟨(none:Option Zg),⟨Yf.2.1.left.Kind,⟨Yf.2.1.left.Old.Kind,Yf.2.1.left.Old.Words,Yf.2.1.left.Old.Kids⟩,⟨Yf.2.1.left.New.Kind,Yf.2.1.left.New.Words,Yf.2.1.left.New.Kids⟩,Yf.2.1.left.Words,Yf.2.1.left.Kids,Yf.2.1.left.List_,Yf.2.1.left.Ops⟩,Z99⟩:Zi),Yf.2.2.1,Yf.2.2.2.1,Yf.2.2.2.2)) (cond (Zih.Of == 2) ((jK 56 Yf.2.2.1.come Zih.Q.L).bind fun Yaa=>some (Yf.2.1,(⟨(none:Option Zg),⟨Yf.2.2.1.left.Kind,⟨Yf.2.2.1.left.Old.Kind,Yf.2.2.1.left.Old.Words,Yf.2.2.1.left.Old.Kids⟩,⟨Yf.2.2.1.left.New.Kind,Yf.2.2.1.left.New.Words,Yf.2.2.1.left.New.Kids⟩,Yf.2.2.1.left.Words,Yf.2.2.1.left.Kids,Yf.2.2.1.left.List_,Yf.2.2.1.left.Ops⟩,Yaa⟩:Zi),Yf.2.2.2.1,Yf.2.2.2.2)) (cond (Zih.Of == 0) ((K4 Yf.2.1 Yf.2.2.1 (⟨Yf.2.2.2.1,Yf.2.2.2.2⟩:Zg)).bind fun Z3y=>(Xd Z3y.1 Z3y.2.1 Zih.P Zih.Q Z3y.2.2).bind fun Zm8=>some (Zm8.1,Zm8.2.1,Zm8.2.2.apart,Zm8.2.2.clash)) (some (Yf.2.1,Yf.2.2.1,Yf.2.2.2.1,Yf.2.2.2.2))))).bind fun (z99:(Zi×Zi×Bool×Bool))=>some (.inl ((IntKind.i64.wrap (Yf.1+1)),z99.1,z99.2.1,z99.2.2.1,z99.2.2.2))) (some (.inr (Yf.2.1,Yf.2.2.1,Yf.2.1.left.Words,Yf.2.1.left.Kids,Yf.2.1.left.Ops,Yf.2.1.come,Yf.2.2.1.left.Words,Yf.2.2.1.left.Kids,Yf.2.2.1.left.Ops,Yf.2.2.1.come,Yf.2.2.2.1,Yf.2.2.2.2)))
noncomputable def Jd (Xa:(Zd→Zd→Zg→Option (Zd×Zd×Zg))) (Y6:(Zd→Zd→Zg→Option (Zd×Zd×Zg))) (Xf:(Zd→Zd→Zg→Option (Zd×Zd×Zg))) (Xh:(Zi→Zi→(List Zq)→(List Zq)→Zg→Option (Zi×Zi×Zg))) (Xd:(Zi→Zi→Zo→Zo→Zg→Option (Zi×Zi×Zg))) (a1:Zd) (a2:Zd) (Yy:Zg):Option (Zd×Zd×Zg) :=
 (Jp a1.Ops a2.Ops).bind fun y2=>(Jf a1).bind fun y27=>(Jf a2).bind fun y63=>(Yx (Xx Xd y2) (0,y27,y63,(cond Yy.apart true (!y2.2)),Yy.clash)).bind fun (Vz:(Zi×Zi×(List Zs)×(List Zq)×(List Zo)×(List Zb)×(List Zs)×(List Zq)×(List Zo)×(List Zb)×Bool×Bool))=>(K4 (⟨(none:Option Zg),⟨Vz.1.left.Kind,⟨Vz.1.left.Old.Kind,Vz.1.left.Old.Words,Vz.1.left.Old.Kids⟩,⟨Vz.1.left.New.Kind,Vz.1.left.New.Words,Vz.1.left.New.Kids⟩,Vz.2.2.1,Vz.2.2.2.1,Vz.1.left.List_,Vz.2.2.2.2.1⟩,Vz.2.2.2.2.2.1⟩:Zi) (⟨(none:Option Zg),⟨Vz.2.1.left.Kind,⟨Vz.2.1.left.Old.Kind,Vz.2.1.left.Old.Words,Vz.2.1.left.Old.Kids⟩,⟨Vz.2.1.left.New.Kind,Vz.2.1.left.New.Words,Vz.2.1.left.New.Kids⟩,Vz.2.2.2.2.2.2.1,Vz.2.2.2.2.2.2.2.1,Vz.2.1.left.List_,Vz.2.2.2.2.2.2.2.2.1⟩,Vz.2.2.2.2.2.2.2.2.2.1⟩:Zi) (⟨Vz.2.2.2.2.2.2.2.2.2.2.1,Vz.2.2.2.2.2.2.2.2.2.2.2⟩:Zg)).bind fun Uv=>(Jg (⟨(none:Option Zg),⟨Uv.1.left.Kind,Uv.1.left.Old,Uv.1.left.New,Uv.1.left.Words,Uv.1.left.Kids,Uv.1.left.List_,Uv.1.left.Ops⟩,Uv.1.come⟩:Zi) Uv.2.2).bind fun Ztj=>(Jg (⟨(none:Option Zg),⟨Uv.2.1.left.Kind,Uv.2.1.left.Old,Uv.2.1.left.New,Uv.2.1.left.Words,Uv.2.1.left.Kids,Uv.2.1.left.List_,Uv.2.1.left.Ops⟩,Uv.2.1.come⟩:Zi) Ztj.2.2).bind fun Zd9=>some (Ztj.1,Zd9.1,Zd9.2.2)
noncomputable def Q3 (Xa:(Zd→Zd→Zg→Option (Zd×Zd×Zg))) (Yf:((List Zq)×(List Zq)×Zi×Zi×Bool×Bool)):Option (((List Zq)×(List Zq)×Zi×Zi×Bool×Bool) ⊕ ((List Zs)×(List Zq)×(List Zo)×(List Zb)×(List Zs)×(List Zq)×(List Zo)×(List Zb)×Zi×Zi×Bool×Bool)) :=
 cond (cond (decide (0 < (Yf.1.length:Int))) true (decide (0 < (Yf.2.1.length:Int)))) ((cond ((Yf.2.1.length:Int) == 0) (some true) (cond (decide (0 < (Yf.1.length:Int))) ((Qp Yf.1 0).bind fun dB=>(Qp Yf.2.1 0).bind fun gR=>some (cond ((Yf.2.1.length:Int) == 0) true (cond (decide (0 < (Yf.1.length:Int))) (decide (dB.At < gR.At)) false))) (some (cond ((Yf.2.1.length:Int) == 0) true false)))).bind fun (z5:Bool)=>cond z5 ((Qp Yf.1 0).bind fun x21=>(lJ Yf.2.2.1 x21.At x21.E (⟨Yf.2.2.2.2.1,Yf.2.2.2.2.2⟩:Zg)).bind fun y25=>(iG Yf.1 1 (Yf.1.length:Int)).bind fun l26=>some (.inl (l26,Yf.2.1,y25.1,Yf.2.2.2.1,y25.2.apart,y25.2.clash))) ((cond ((Yf.1.length:Int) == 0) (some true) ((Qp Yf.2.1 0).bind fun x36=>(Qp Yf.1 0).bind fun x38=>some (cond ((Yf.1.length:Int) == 0) true (decide (x36.At < x38.At))))).bind fun (z31:Bool)=>cond z31 ((Qp Yf.2.1 0).bind fun x46=>(lJ Yf.2.2.2.1 x46.At x46.E (⟨Yf.2.2.2.2.1,Yf.2.2.2.2.2⟩:Zg)).bind fun y50=>(iG Yf.2.1 1 (Yf.2.1.length:Int)).bind fun l51=>some (.inl (Yf.1,l51,Yf.2.2.1,y50.1,y50.2.apart,y50.2.clash))) ((Qp Yf.1 0).bind fun x76=>(Qp Yf.2.1 0).bind fun Ycg=>(Xa x76.E Ycg.E (⟨Yf.2.2.2.2.1,Yf.2.2.2.2.2⟩:Zg)).bind fun Ztk=>(Qp Yf.1 0).bind fun Ych=>(cX Yf.2.2.1 Ych.At Ztk.1 Ztk.2.2).bind fun Z7h=>(Qp Yf.2.1 0).bind fun Yci=>(cX Yf.2.2.2.1 Yci.At Ztk.2.1 Z7h.2).bind fun Z33=>(iG Yf.1 1 (Yf.1.length:Int)).bind fun Yab=>(iG Yf.2.1 1 (Yf.2.1.length:Int)).bind fun Yac=>some (.inl (Yab,Yac,Z7h.1,Z33.1,Z33.2.apart,Z33.2.clash))))) (some (.inr (Yf.2.2.1.left.Words,Yf.2.2.1.left.Kids,Yf.2.2.1.left.Ops,Yf.2.2.1.come,Yf.2.2.2.1.left.Words,Yf.2.2.2.1.left.Kids,Yf.2.2.2.1.left.Ops,Yf.2.2.2.1.come,Yf.2.2.1,Yf.2.2.2.1,Yf.2.2.2.2.1,Yf.2.2.2.2.2)))
noncomputable def V0 (Xa:(Zd→Zd→Zg→Option (Zd×Zd×Zg))) (Y6:(Zd→Zd→Zg→Option (Zd×Zd×Zg))) (Xf:(Zd→Zd→Zg→Option (Zd×Zd×Zg))) (Xh:(Zi→Zi→(List Zq)→(List Zq)→Zg→Option (Zi×Zi×Zg))) (Xd:(Zi→Zi→Zo→Zo→Zg→Option (Zi×Zi×Zg))) (a1:Zi) (a2:Zi) (a3:(List Zq)) (a4:(List Zq)) (Yy:Zg):Option (Zi×Zi×Zg) :=
 (Yx (Q3 Xa) (a3,a4,a1,a2,Yy.apart,Yy.clash)).bind fun (J6:((List Zs)×(List Zq)×(List Zo)×(List Zb)×(List Zs)×(List Zq)×(List Zo)×(List Zb)×Zi×Zi×Bool×Bool))=>some ((⟨(none:Option Zg),⟨J6.2.2.2.2.2.2.2.2.1.left.Kind,⟨J6.2.2.2.2.2.2.2.2.1.left.Old.Kind,J6.2.2.2.2.2.2.2.2.1.left.Old.Words,J6.2.2.2.2.2.2.2.2.1.left.Old.Kids⟩,⟨J6.2.2.2.2.2.2.2.2.1.left.New.Kind,J6.2.2.2.2.2.2.2.2.1.left.New.Words,J6.2.2.2.2.2.2.2.2.1.left.New.Kids⟩,J6.1,J6.2.1,J6.2.2.2.2.2.2.2.2.1.left.List_,J6.2.2.1⟩,J6.2.2.2.1⟩:Zi),(⟨(none:Option Zg),⟨J6.2.2.2.2.2.2.2.2.2.1.left.Kind,⟨J6.2.2.2.2.2.2.2.2.2.1.left.Old.Kind,J6.2.2.2.2.2.2.2.2.2.1.left.Old.Words,J6.2.2.2.2.2.2.2.2.2.1.left.Old.Kids⟩,⟨J6.2.2.2.2.2.2.2.2.2.1.left.New.Kind,J6.2.2.2.2.2.2.2.2.2.1.left.New.Words,J6.2.2.2.2.2.2.2.2.2.1.left.New.Kids⟩,J6.2.2.2.2.1,J6.2.2.2.2.2.1,J6.2.2.2.2.2.2.2.2.2.1.left.List_,J6.2.2.2.2.2.2.1⟩,J6.2.2.2.2.2.2.2.1⟩:Zi),(⟨J6.2.2.2.2.2.2.2.2.2.2.1,J6.2.2.2.2.2.2.2.2.2.2.2⟩:Zg))
noncomputable def Jt (Xa:(Zd→Zd→Zg→Option (Zd×Zd×Zg))) (Y6:(Zd→Zd→Zg→Option (Zd×Zd×Zg))) (Xf:(Zd→Zd→Zg→Option (Zd×Zd×Zg))) (Xh:(Zi→Zi→(List Zq)→(List Zq)→Zg→Option (Zi×Zi×Zg))) (Xd:(Zi→Zi→Zo→Zo→Zg→Option (Zi×Zi×Zg))) (a1:Zi) (a2:Zi) (a3:Zo) (a4:Zo) (Yy:Zg):Option (Zi×Zi×Zg) :=
 cond (cond (a3.Kind == 3) (a4.Kind == 3) false) ((Xa a3.E a4.E Yy).bind fun y2=>(Un a1 y2.1 y2.2.2).bind fun y4=>(Un a2 y2.2.1 y4.2).bind fun y6=>some (y4.1,y6.1,y6.2)) ((Vp a1 a3 a4 Yy).bind fun y8=>(Vp a2 a4 a3 y8.2).bind fun y9=>some (y8.1,y9.1,y9.2))
noncomputable def Zp:Nat→((Zd→Zd→Zg→Option (Zd×Zd×Zg))×(Zd→Zd→Zg→Option (Zd×Zd×Zg))×(Zd→Zd→Zg→Option (Zd×Zd×Zg))×(Zi→Zi→(List Zq)→(List Zq)→Zg→Option (Zi×Zi×Zg))×(Zi→Zi→Zo→Zo→Zg→Option (Zi×Zi×Zg)))
 | 0=>((fun _ _ _=>none),(fun _ _ _=>none),(fun _ _ _=>none),(fun _ _ _ _ _=>none),(fun _ _ _ _ _=>none))
 | k+1=>(Xo ((Zp k).1) ((Zp k).2.1) ((Zp k).2.2.1) ((Zp k).2.2.2.1) ((Zp k).2.2.2.2),K1 ((Zp k).1) ((Zp k).2.1) ((Zp k).2.2.1) ((Zp k).2.2.2.1) ((Zp k).2.2.2.2),Jd ((Zp k).1) ((Zp k).2.1) ((Zp k).2.2.1) ((Zp k).2.2.2.1) ((Zp k).2.2.2.2),V0 ((Zp k).1) ((Zp k).2.1) ((Zp k).2.2.1) ((Zp k).2.2.2.1) ((Zp k).2.2.2.2),Jt ((Zp k).1) ((Zp k).2.1) ((Zp k).2.2.1) ((Zp k).2.2.2.1) ((Zp k).2.2.2.2))
noncomputable def Gr (a1:Zd) (a2:Zd) (Yy:Zg):Option (Zd×Zd×Zg):=lim fun k=>(Zp k).1 a1 a2 Yy
noncomputable def Vo (a0:Zd) (a1:Zd):Option (Zd×Zd×Int) :=
 (Gf a0).bind fun y13=>(Gf a1).bind fun y37=>(Gr y13 y37 (⟨false,false⟩:Zg)).bind fun y49=>cond y49.2.2.apart (some ((⟨0,⟨0,[],[]⟩,⟨0,[],[]⟩,[],[],0,[]⟩:Zd),(⟨0,⟨0,[],[]⟩,⟨0,[],[]⟩,[],[],0,[]⟩:Zd),14)) (cond y49.2.2.clash (some ((⟨0,⟨0,[],[]⟩,⟨0,[],[]⟩,[],[],0,[]⟩:Zd),(⟨0,⟨0,[],[]⟩,⟨0,[],[]⟩,[],[],0,[]⟩:Zd),13)) ((Gf y49.1).bind fun Z7f=>(Gf y49.2.1).bind fun Z7g=>some (Z7f,Z7g,0)))
noncomputable def jZ :Option Bool :=
 (Vo (⟨3,⟨0,[],[]⟩,⟨0,[],[]⟩,[],[],4,([(⟨2,0,([(⟨10,([1]:List Int),[]⟩:Zb)]:List Zb),⟨0,⟨0,[],[]⟩,⟨0,[],[]⟩,[],[],0,[]⟩⟩:Zo),(⟨0,1,[],⟨0,⟨0,[],[]⟩,⟨0,[],[]⟩,[],[],0,[]⟩⟩:Zo)]:List Zo)⟩:Zd) (⟨3,⟨0,[],[]⟩,⟨0,[],[]⟩,[],[],4,([(⟨0,1,[],⟨0,⟨0,[],[]⟩,⟨0,[],[]⟩,[],[],0,[]⟩⟩:Zo),(⟨2,0,([(⟨10,([2]:List Int),[]⟩:Zb)]:List Zb),⟨0,⟨0,[],[]⟩,⟨0,[],[]⟩,[],[],0,[]⟩⟩:Zo)]:List Zo)⟩:Zd)).bind fun y2=>(cond (y2.2.2 == 0) (cond ((y2.1.Ops.length:Int) == 2) ((Qp y2.1.Ops 0).bind fun x20=>cond (x20.Kind == 2) ((Qp y2.1.Ops 1).bind fun x22=>cond (x22.N == 2) (cond ((y2.2.1.Ops.length:Int) == 2) ((Qp y2.2.1.Ops 0).bind fun x24=>cond (x24.N == 2) ((Qp y2.2.1.Ops 1).bind fun x26=>some (cond (cond (cond (cond (cond (cond (y2.2.2 == 0) ((y2.1.Ops.length:Int) == 2) false) (x20.Kind == 2) false) (x22.N == 2) false) ((y2.2.1.Ops.length:Int) == 2) false) (x24.N == 2) false) (x26.Kind == 2) false)) (some false)) (some false)) (some false)) (some false)) (some false)) (some false)).bind fun (gO:Bool)=>some gO
noncomputable def eY (a0:(List Int)) (a1:(List Int)) (Yf:Int):Option (Int ⊕ (Unit ⊕ Unit)) :=
 cond (decide (Yf < (a0.length:Int))) ((Qp a0 Yf).bind fun x3=>(Qp a1 Yf).bind fun x4=>cond (x3 != x4) (some (.inr (.inl ()))) (some (.inl (IntKind.i64.wrap (Yf+1))))) (some (.inr (.inr ())))
noncomputable def pK (a0:(List Int)) (a1:(List Int)):Option Bool :=
 cond ((a0.length:Int) != (a1.length:Int)) (some false) ((Yx (eY a0 a1) 0).bind fun (z7:(Unit ⊕ Unit))=>match z7 with | .inl z7=>some false | .inr z7=>some true)
noncomputable def wZ (Uh:(Zb→Zb→Option Bool)) (a0:Zb) (a1:Zb) (Yf:Int):Option (Int ⊕ (Unit ⊕ Unit)) :=
 cond (decide (Yf < (a0.Kids.length:Int))) ((Qp a0.Kids Yf).bind fun x9=>(Qp a1.Kids Yf).bind fun dB=>(Uh x9 dB).bind fun y11=>cond (!y11) (some (.inr (.inl ()))) (some (.inl (IntKind.i64.wrap (Yf+1))))) (some (.inr (.inr ())))
noncomputable def kK (Uh:(Zb→Zb→Option Bool)) (a0:Zb) (a1:Zb):Option Bool :=
 (cond (a0.Kind != a1.Kind) (some true) ((pK a0.Words a1.Words).bind fun y4=>some (cond (cond (a0.Kind != a1.Kind) true (!y4)) true ((a0.Kids.length:Int) != (a1.Kids.length:Int))))).bind fun (z2:Bool)=>cond z2 (some false) ((Yx (wZ Uh a0 a1) 0).bind fun (wV:(Unit ⊕ Unit))=>match wV with | .inl wV=>some false | .inr wV=>some true)
noncomputable def U3:Nat→(Zb→Zb→Option Bool)
 | 0=>(fun _ _=>none)
 | k+1=>kK ((U3 k))
noncomputable def qK (a0:Zb) (a1:Zb):Option Bool:=lim fun k=>(U3 k) a0 a1
noncomputable def G5 (a0:(List Zb)) (a1:(List Zb)) (Yf:Int):Option (Int ⊕ (Unit ⊕ Unit)) :=
 cond (decide (Yf < (a0.length:Int))) ((Qp a0 Yf).bind fun x4=>(Qp a1 Yf).bind fun x5=>(qK x4 x5).bind fun y6=>cond (!y6) (some (.inr (.inl ()))) (some (.inl (IntKind.i64.wrap (Yf+1))))) (some (.inr (.inr ())))
noncomputable def Gk (a0:(List Zb)) (a1:(List Zb)):Option Bool :=
 cond ((a0.length:Int) != (a1.length:Int)) (some false) ((Yx (G5 a0 a1) 0).bind fun (z9:(Unit ⊕ Unit))=>match z9 with | .inl z9=>some false | .inr z9=>some true)
noncomputable def yZ (a0:Zd) (a1:Zd) (Yf:Int):Option (Int ⊕ (Unit ⊕ Unit)) :=
 cond (decide (Yf < (a0.Words.length:Int))) ((Qp a0.Words Yf).bind fun kM=>(Qp a1.Words Yf).bind fun yH=>cond (!((kM.At == yH.At) && ((kM.Mask == yH.Mask) && ((kM.Old == yH.Old) && (kM.New == yH.New))))) (some (.inr (.inl ()))) (some (.inl (IntKind.i64.wrap (Yf+1))))) (some (.inr (.inr ())))
noncomputable def zZ (J5:(Zd→Zd→Option Bool)) (a0:Zd) (a1:Zd) (xK:Int):Option (Int ⊕ (Unit ⊕ Unit)) :=
 cond (decide (xK < (a0.Kids.length:Int))) (((Qp a0.Kids xK).bind fun x37=>(Qp a1.Kids xK).bind fun x39=>cond (x37.At != x39.At) (some true) ((J5 x37.E x39.E).bind fun y45=>some (cond (x37.At != x39.At) true (!y45)))).bind fun (z27:Bool)=>cond z27 (some (.inr (.inl ()))) (some (.inl (IntKind.i64.wrap (xK+1))))) (some (.inr (.inr ())))
noncomputable def aY (J5:(Zd→Zd→Option Bool)) (a0:Zd) (a1:Zd) (s2_:Int):Option (Int ⊕ (Unit ⊕ Unit)) :=
 cond (decide (s2_ < (a0.Ops.length:Int))) ((Qp a0.Ops s2_).bind fun x50=>(Qp a1.Ops s2_).bind fun x51=>(cond (x50.Kind != x51.Kind) (some true) (cond (x50.N != x51.N) (some true) ((Gk x50.L x51.L).bind fun y57=>cond y57 ((J5 x50.E x51.E).bind fun y58=>some (cond (cond (cond (x50.Kind != x51.Kind) true (x50.N != x51.N)) true (!y57)) true (!y58))) (some true)))).bind fun (z54:Bool)=>cond z54 (some (.inr (.inl ()))) (some (.inl (IntKind.i64.wrap (s2_+1))))) (some (.inr (.inr ())))
noncomputable def lK (J5:(Zd→Zd→Option Bool)) (a0:Zd) (a1:Zd):Option Bool :=
 (cond (a0.Kind != a1.Kind) (some true) (cond (a0.List_ != a1.List_) (some true) ((qK a0.Old a1.Old).bind fun y6=>cond y6 ((qK a0.New a1.New).bind fun y7=>some (cond (cond (cond (cond (cond (cond (a0.Kind != a1.Kind) true (a0.List_ != a1.List_)) true (!y6)) true (!y7)) true ((a0.Words.length:Int) != (a1.Words.length:Int))) true ((a0.Kids.length:Int) != (a1.Kids.length:Int))) true ((a0.Ops.length:Int) != (a1.Ops.length:Int)))) (some true)))).bind fun (z3:Bool)=>cond z3 (some false) ((Yx (yZ a0 a1) 0).bind fun (z17:(Unit ⊕ Unit))=>match z17 with | .inl z17=>some false | .inr z17=>(Yx (zZ J5 a0 a1) 0).bind fun (z49:(Unit ⊕ Unit))=>match z49 with | .inl z49=>some false | .inr z49=>(Yx (aY J5 a0 a1) 0).bind fun (z64:(Unit ⊕ Unit))=>match z64 with | .inl z64=>some false | .inr z64=>some true)
noncomputable def U4:Nat→(Zd→Zd→Option Bool)
 | 0=>(fun _ _=>none)
 | k+1=>lK ((U4 k))
noncomputable def kG (a0:Zd) (a1:Zd):Option Bool:=lim fun k=>(U4 k) a0 a1
noncomputable def G4 (a0:Zd) (a1:Zd):Option Bool :=
 ((zY a0).bind fun y6=>cond y6 ((zY a1).bind fun y7=>some (cond (!y6) true (!y7))) (some true)).bind fun (z3:Bool)=>cond z3 ((jZ).bind fun vC=>some vC) ((Vo a0 a1).bind fun y12=>(Vo a1 a0).bind fun y14=>(cond (y12.2.2 == y14.2.2) ((kG y12.1 y14.2.1).bind fun y22=>cond y22 ((kG y12.2.1 y14.1).bind fun y23=>cond y23 ((jZ).bind fun y24=>some (cond (cond (cond (y12.2.2 == y14.2.2) y22 false) y23 false) y24 false)) (some false)) (some false)) (some false)).bind fun (z18:Bool)=>some z18)
mutual
def vK:Zb→List G
 | ⟨f0,f1,f2⟩=>[.val (.int .i64 f0),.sl f1.length (fl (eI .u64) f1),.sl f2.length (wK f2)]
def wK:List Zb→List G
 | []=>[]
 | x::xs=>vK x++wK xs
end
theorem rT:∀ xs,wK xs=fl vK xs
 | []=>by simp [wK,fl]
 | x::xs=>by rw [wK,tJ,rT xs]
def Za (x:Zb):List G:=[.val (.int .i64 x.Kind),.sl x.Words.length (fl (eI .u64) x.Words),.sl x.Kids.length (fl vK x.Kids)]
theorem Jn:vK=Za:=by
 funext x
 obtain ⟨_,_,_⟩:=x
 simp only [vK,rT,Za,List.cons_append,List.nil_append]
mutual
theorem Zbs:∀ x,G.pures (vK x)=true
 | ⟨f0,f1,f2⟩=>by simp [vK,eP,eI,eB,eS,eL,G.pures,G.pure,zU,Ka,Zap f2]
theorem Zap:∀ xs,G.pures (wK xs)=true
 | []=>rfl
 | x::xs=>by simp [wK,zU,Zbs x,Zap xs]
end
theorem Zcy:∀ x,G.pures ((eI .u64) x)=true:=fun x=>by simp [eI,eB,eS,eL,eP,G.pures,G.pure]
theorem bR {O O':Objs} {n:Nat} (xs:List Int):bV O O' n (fl (eI .u64) xs) (fl (eI .u64) xs):=cR (Ka Zcy xs)
theorem Zuu {O O':Objs} {n:Nat} (xs:List Int) (b b':List G):bV O O' n (fl (eI .u64) xs++b) (fl (eI .u64) xs++b')=bV O O' n b b':=dR b b' _ (Ka Zcy xs)
theorem Zua (xs:List Int):(fl (eI .u64) xs).length=xs.length * 1:=cK (f:=(eI .u64)) (k:=1) (fun _=>rfl) xs
theorem Zuh (xs:List Int):(fl (eI .u64) xs).all G.one=true:=wM (fun x=>by simp [eI,eB,eS,eL,eP,G.one,Value.oneCell']) xs
theorem oH {ρ:Nat→Nat} (xs:List Int):G.rens ρ (fl (eI .u64) xs)=fl (eI .u64) xs:=gK ρ _ (Ka Zcy xs)
theorem Gw:∀ x,G.pures (Za x)=true:=fun x=>by rw [← Jn];exact Zbs x
theorem vV {O O':Objs} {n:Nat} (xs:List Zb):bV O O' n (fl Za xs) (fl Za xs):=cR (Ka Gw xs)
theorem aF {O O':Objs} {n:Nat} (xs:List Zb) (b b':List G):bV O O' n (fl Za xs++b) (fl Za xs++b')=bV O O' n b b':=dR b b' _ (Ka Gw xs)
theorem mE (xs:List Zb):(fl Za xs).length=xs.length * 3:=cK (f:=Za) (k:=3) (fun _=>rfl) xs
theorem vE (xs:List Zb):(fl Za xs).all G.one=true:=wM (fun x=>by simp [eI,eB,eS,eL,eP,G.one,Value.oneCell',Za]) xs
theorem uK {ρ:Nat→Nat} (xs:List Zb):G.rens ρ (fl Za xs)=fl Za xs:=gK ρ _ (Ka Gw xs)
def Zf (x:Zs):List G:=[.val (.int .i64 x.At),.val (.int .u8 x.Mask),.val (.int .u64 x.Old),.val (.int .u64 x.New)]
mutual
def qZ:Zd→List G
 | ⟨f0,f1,f2,f3,f4,f5,f6⟩=>[.val (.int .i64 f0),.val (.int .i64 f1.Kind),.sl f1.Words.length (fl (eI .u64) f1.Words),.sl f1.Kids.length (fl Za f1.Kids),.val (.int .i64 f2.Kind),.sl f2.Words.length (fl (eI .u64) f2.Words),.sl f2.Kids.length (fl Za f2.Kids),.sl f3.length (fl Zf f3),.sl f4.length (hZ f4),.val (.int .i64 f5),.sl f6.length (pG f6)]
def sS:List Zd→List G
 | []=>[]
 | x::xs=>qZ x++sS xs
def cY:Zo→List G
 | ⟨f0,f1,f2,f3⟩=>[.val (.int .i64 f0),.val (.int .i64 f1),.sl f2.length (fl Za f2)]++qZ f3
def pG:List Zo→List G
 | []=>[]
 | x::xs=>cY x++pG xs
def Kj:Zq→List G
 | ⟨f0,f1⟩=>[.val (.int .i64 f0)]++qZ f1
def hZ:List Zq→List G
 | []=>[]
 | x::xs=>Kj x++hZ xs
end
theorem aD:∀ xs,pG xs=fl cY xs
 | []=>by simp [pG,fl]
 | x::xs=>by rw [pG,tJ,aD xs]
theorem dV:∀ xs,hZ xs=fl Kj xs
 | []=>by simp [hZ,fl]
 | x::xs=>by rw [hZ,tJ,dV xs]
def Jz (x:Zd):List G:=[.val (.int .i64 x.Kind),.val (.int .i64 x.Old.Kind),.sl x.Old.Words.length (fl (eI .u64) x.Old.Words),.sl x.Old.Kids.length (fl Za x.Old.Kids),.val (.int .i64 x.New.Kind),.sl x.New.Words.length (fl (eI .u64) x.New.Words),.sl x.New.Kids.length (fl Za x.New.Kids),.sl x.Words.length (fl Zf x.Words),.sl x.Kids.length (fl Kj x.Kids),.val (.int .i64 x.List_),.sl x.Ops.length (fl cY x.Ops)]
def Zh (x:Zo):List G:=[.val (.int .i64 x.Kind),.val (.int .i64 x.N),.sl x.L.length (fl Za x.L),.val (.int .i64 x.E.Kind),.val (.int .i64 x.E.Old.Kind),.sl x.E.Old.Words.length (fl (eI .u64) x.E.Old.Words),.sl x.E.Old.Kids.length (fl Za x.E.Old.Kids),.val (.int .i64 x.E.New.Kind),.sl x.E.New.Words.length (fl (eI .u64) x.E.New.Words),.sl x.E.New.Kids.length (fl Za x.E.New.Kids),.sl x.E.Words.length (fl Zf x.E.Words),.sl x.E.Kids.length (fl Kj x.E.Kids),.val (.int .i64 x.E.List_),.sl x.E.Ops.length (fl cY x.E.Ops)]
def Ze (x:Zq):List G:=[.val (.int .i64 x.At),.val (.int .i64 x.E.Kind),.val (.int .i64 x.E.Old.Kind),.sl x.E.Old.Words.length (fl (eI .u64) x.E.Old.Words),.sl x.E.Old.Kids.length (fl Za x.E.Old.Kids),.val (.int .i64 x.E.New.Kind),.sl x.E.New.Words.length (fl (eI .u64) x.E.New.Words),.sl x.E.New.Kids.length (fl Za x.E.New.Kids),.sl x.E.Words.length (fl Zf x.E.Words),.sl x.E.Kids.length (fl Kj x.E.Kids),.val (.int .i64 x.E.List_),.sl x.E.Ops.length (fl cY x.E.Ops)]
theorem kV:qZ=Jz:=by
 funext x
 obtain ⟨_,_,_,_,_,_,_⟩:=x
 simp only [qZ,cY,aD,Kj,dV,Jz,List.cons_append,List.nil_append]
theorem Vk:cY=Zh:=by
 funext x
 obtain ⟨_,_,_,⟨_,_,_,_,_,_,_⟩⟩:=x
 simp only [qZ,cY,aD,Kj,dV,Zh,List.cons_append,List.nil_append]
theorem Jj:Kj=Ze:=by
 funext x
 obtain ⟨_,⟨_,_,_,_,_,_,_⟩⟩:=x
 simp only [qZ,cY,aD,Kj,dV,Ze,List.cons_append,List.nil_append]
mutual
theorem lP:∀ x,G.pures (qZ x)=true
 | ⟨f0,f1,f2,f3,f4,f5,f6⟩=>by simp [qZ,eP,eI,eB,eS,eL,G.pures,G.pure,zU,Ka,mP f4,Zdk f6,Gw,Zf]
theorem Zjh:∀ xs,G.pures (sS xs)=true
 | []=>rfl
 | x::xs=>by simp [sS,zU,lP x,Zjh xs]
theorem Zgb:∀ x,G.pures (cY x)=true
 | ⟨f0,f1,f2,f3⟩=>by simp [cY,eP,eI,eB,eS,eL,G.pures,G.pure,zU,Ka,lP f3,Gw,Zf]
theorem Zdk:∀ xs,G.pures (pG xs)=true
 | []=>rfl
 | x::xs=>by simp [pG,zU,Zgb x,Zdk xs]
theorem mS:∀ x,G.pures (Kj x)=true
 | ⟨f0,f1⟩=>by simp [Kj,eP,eI,eB,eS,eL,G.pures,G.pure,zU,Ka,lP f1,Gw,Zf]
theorem mP:∀ xs,G.pures (hZ xs)=true
 | []=>rfl
 | x::xs=>by simp [hZ,zU,mS x,mP xs]
end
theorem qX:∀ x,G.pures (Zf x)=true:=fun x=>by simp [eI,eB,eS,eL,eP,G.pures,G.pure,Zf]
theorem nY {O O':Objs} {n:Nat} (xs:List Zs):bV O O' n (fl Zf xs) (fl Zf xs):=cR (Ka qX xs)
theorem Zcn {O O':Objs} {n:Nat} (xs:List Zs) (b b':List G):bV O O' n (fl Zf xs++b) (fl Zf xs++b')=bV O O' n b b':=dR b b' _ (Ka qX xs)
theorem Za8 (xs:List Zs):(fl Zf xs).length=xs.length * 4:=cK (f:=Zf) (k:=4) (fun _=>rfl) xs
theorem Zbm (xs:List Zs):(fl Zf xs).all G.one=true:=wM (fun x=>by simp [eI,eB,eS,eL,eP,G.one,Value.oneCell',Zf]) xs
theorem eZ {ρ:Nat→Nat} (xs:List Zs):G.rens ρ (fl Zf xs)=fl Zf xs:=gK ρ _ (Ka qX xs)
theorem oU:∀ x,G.pures (Ze x)=true:=fun x=>by rw [← Jj];exact mS x
theorem sX {O O':Objs} {n:Nat} (xs:List Zq):bV O O' n (fl Ze xs) (fl Ze xs):=cR (Ka oU xs)
theorem yI {O O':Objs} {n:Nat} (xs:List Zq) (b b':List G):bV O O' n (fl Ze xs++b) (fl Ze xs++b')=bV O O' n b b':=dR b b' _ (Ka oU xs)
theorem lY {ρ:Nat→Nat} (xs:List Zq):G.rens ρ (fl Ze xs)=fl Ze xs:=gK ρ _ (Ka oU xs)
theorem eF:∀ x,G.pures (Zh x)=true:=fun x=>by rw [← Vk];exact Zgb x
theorem pA {O O':Objs} {n:Nat} (xs:List Zo):bV O O' n (fl Zh xs) (fl Zh xs):=cR (Ka eF xs)
theorem Zcm {O O':Objs} {n:Nat} (xs:List Zo) (b b':List G):bV O O' n (fl Zh xs++b) (fl Zh xs++b')=bV O O' n b b':=dR b b' _ (Ka eF xs)
theorem wU {ρ:Nat→Nat} (xs:List Zo):G.rens ρ (fl Zh xs)=fl Zh xs:=gK ρ _ (Ka eF xs)
theorem Z01:∀ x,G.pures ((eI .u8) x)=true:=fun x=>by simp [eI,eB,eS,eL,eP,G.pures,G.pure]
theorem Zyb {O O':Objs} {n:Nat} (xs:List Int):bV O O' n (fl (eI .u8) xs) (fl (eI .u8) xs):=cR (Ka Z01 xs)
theorem Zxp (xs:List Int):(fl (eI .u8) xs).length=xs.length * 1:=cK (f:=(eI .u8)) (k:=1) (fun _=>rfl) xs
theorem Zxx (xs:List Int):(fl (eI .u8) xs).all G.one=true:=wM (fun x=>by simp [eI,eB,eS,eL,eP,G.one,Value.oneCell']) xs
def Xm (x:Yw):List G:=[.val (.int .i64 x.Of),.val (.int .i64 x.P.Kind),.val (.int .i64 x.P.N),.sl x.P.L.length (fl Za x.P.L),.val (.int .i64 x.P.E.Kind),.val (.int .i64 x.P.E.Old.Kind),.sl x.P.E.Old.Words.length (fl (eI .u64) x.P.E.Old.Words),.sl x.P.E.Old.Kids.length (fl Za x.P.E.Old.Kids),.val (.int .i64 x.P.E.New.Kind),.sl x.P.E.New.Words.length (fl (eI .u64) x.P.E.New.Words),.sl x.P.E.New.Kids.length (fl Za x.P.E.New.Kids),.sl x.P.E.Words.length (fl Zf x.P.E.Words),.sl x.P.E.Kids.length (fl Ze x.P.E.Kids),.val (.int .i64 x.P.E.List_),.sl x.P.E.Ops.length (fl Zh x.P.E.Ops),.val (.int .i64 x.Q.Kind),.val (.int .i64 x.Q.N),.sl x.Q.L.length (fl Za x.Q.L),.val (.int .i64 x.Q.E.Kind),.val (.int .i64 x.Q.E.Old.Kind),.sl x.Q.E.Old.Words.length (fl (eI .u64) x.Q.E.Old.Words),.sl x.Q.E.Old.Kids.length (fl Za x.Q.E.Old.Kids),.val (.int .i64 x.Q.E.New.Kind),.sl x.Q.E.New.Words.length (fl (eI .u64) x.Q.E.New.Words),.sl x.Q.E.New.Kids.length (fl Za x.Q.E.New.Kids),.sl x.Q.E.Words.length (fl Zf x.Q.E.Words),.sl x.Q.E.Kids.length (fl Ze x.Q.E.Kids),.val (.int .i64 x.Q.E.List_),.sl x.Q.E.Ops.length (fl Zh x.Q.E.Ops)]
theorem jC:∀ x,G.pures (Xm x)=true:=fun x=>by simp [eI,eB,eS,eL,eP,G.pures,G.pure,Ka,Xm,Gw,qX,oU,eF]
theorem zI {O O':Objs} {n:Nat} (xs:List Yw):bV O O' n (fl Xm xs) (fl Xm xs):=cR (Ka jC xs)
theorem Zdg {O O':Objs} {n:Nat} (xs:List Yw) (b b':List G):bV O O' n (fl Xm xs++b) (fl Xm xs++b')=bV O O' n b b':=dR b b' _ (Ka jC xs)
theorem Zbt {ρ:Nat→Nat} (xs:List Yw):G.rens ρ (fl Xm xs)=fl Xm xs:=gK ρ _ (Ka jC xs)
def Xk (x:Zo):List G:=[.val (.int .i64 x.Kind),.val (.int .i64 x.N),.sl x.L.length (fl Za x.L),.val (.int .i64 x.E.Kind),.val (.int .i64 x.E.Old.Kind),.sl x.E.Old.Words.length (fl (eI .u64) x.E.Old.Words),.sl x.E.Old.Kids.length (fl Za x.E.Old.Kids),.val (.int .i64 x.E.New.Kind),.sl x.E.New.Words.length (fl (eI .u64) x.E.New.Words),.sl x.E.New.Kids.length (fl Za x.E.New.Kids),.sl x.E.Words.length (fl Zf x.E.Words),.sl x.E.Kids.length (fl Ze x.E.Kids),.val (.int .i64 x.E.List_),.sl x.E.Ops.length (fl Zh x.E.Ops)]
def zJ (x:Zq):List G:=[.val (.int .i64 x.At),.val (.int .i64 x.E.Kind),.val (.int .i64 x.E.Old.Kind),.sl x.E.Old.Words.length (fl (eI .u64) x.E.Old.Words),.sl x.E.Old.Kids.length (fl Za x.E.Old.Kids),.val (.int .i64 x.E.New.Kind),.sl x.E.New.Words.length (fl (eI .u64) x.E.New.Words),.sl x.E.New.Kids.length (fl Za x.E.New.Kids),.sl x.E.Words.length (fl Zf x.E.Words),.sl x.E.Kids.length (fl Ze x.E.Kids),.val (.int .i64 x.E.List_),.sl x.E.Ops.length (fl Zh x.E.Ops)]
def Zl (x:Zd):List G:=[.val (.int .i64 x.Kind),.val (.int .i64 x.Old.Kind),.sl x.Old.Words.length (fl (eI .u64) x.Old.Words),.sl x.Old.Kids.length (fl Za x.Old.Kids),.val (.int .i64 x.New.Kind),.sl x.New.Words.length (fl (eI .u64) x.New.Words),.sl x.New.Kids.length (fl Za x.New.Kids),.sl x.Words.length (fl Zf x.Words),.sl x.Kids.length (fl Ze x.Kids),.val (.int .i64 x.List_),.sl x.Ops.length (fl Zh x.Ops)]
def Z9 (x:Zb):List G:=[.val (.int .i64 x.Kind),.sl x.Words.length (fl (eI .u64) x.Words),.sl x.Kids.length (fl Za x.Kids)]
def Qi (x:Zs):List G:=[.val (.int .i64 x.At),.val (.int .u8 x.Mask),.val (.int .u64 x.Old),.val (.int .u64 x.New)]
def Zj (g0:G) (g8:G) (g9:G) (g11:G) (g12:G) (x:Zi):List G:=[g0,.val (.int .i64 x.left.Kind),.val (.int .i64 x.left.Old.Kind),.sl x.left.Old.Words.length (fl (eI .u64) x.left.Old.Words),.sl x.left.Old.Kids.length (fl Za x.left.Old.Kids),.val (.int .i64 x.left.New.Kind),.sl x.left.New.Words.length (fl (eI .u64) x.left.New.Words),.sl x.left.New.Kids.length (fl Za x.left.New.Kids),g8,g9,.val (.int .i64 x.left.List_),g11,g12]
abbrev vI (x:Int):G := .val (.int .i64 x)
abbrev vB (x:Bool):G := .val (.bool x)
abbrev nV:G := .val (.slice none 0 0)
abbrev sL {α:Type} (e:α→List G) (x:List α):G := .sl x.length (fl e x)
abbrev oR {α:Type} (t s:Nat) (e:α→List G) (x:List α):GObj:=⟨true,t,s,x.length,fl e x⟩
theorem uH {f:FuncId} {gs:List G} {O O2:Objs} {n n2:Nat} {r:G} {fn:Func} {c:Code} (hc:∀ args w,(callFunc f args).run Try.prog w = .ok (.enter f args) w) (hf:Try.prog.funcs[f]? = some fn) (h:Und O n→O n=none→(∀ k,O (n+k)=none)→W Try.prog n c (Fin Ui fn.results.toList r n O2 n2) ⟨fn.ntmps,[],Zkp 0 gs⟩ (Yn O n []) n) (hb:fn.body=some c:=by exact rfl) (hn:gs.length≤fn.ntmps:=by exact Nat.le_of_ble_eq_true rfl) (h2:n≤n2:=by first | exact Nat.le_refl _ | omega):GTo Try.prog f gs O n r O2 n2:=vX Yd hc hf hb hn h2 fun hU=>h hU (hU.fresh _ (Nat.le_refl _)) fun k=>hU.fresh _ (Nat.le_add_right _ _)
structure nI (p:Prop):Prop where
 get:p
structure Ar {α:Type} (a:α):Prop where
def Ar.v {α:Type} {a:α} (_:Ar a):α:=a
theorem zQ {A B:Prop} (l0:List Nat) (b:B) (e:Ar l0→nI B→A:=by intro x0 bZ;refine yJ x0.v (Yv Yd [] ?_);simp only [push_cast,seval,Zc,Ar.v,Ye,hN];exact bZ.get):A:=e ⟨⟩ ⟨b⟩
theorem zQD {A B:Prop} (l0:List Nat) (l1:List (Option Bool)) (b:B) (e:Ar l0→Ar l1→nI B→A:=by intro x0 x1 bZ;refine yJ x0.v (Yv Yd x1.v ?_);simp only [push_cast,seval,Zc,Ar.v,Ye,hN];(repeat (with_reducible refine And.intro (by first | (intro h0;simp only [h0,and_self];done) | (intro h0;simp only [h0,Bool.not_false,Bool.not_true,Bool.true_and,Bool.and_true,true_and,and_true,and_self,imp_self,implies_true,bne_iff_ne,ne_eq,beq_iff_eq];done) | (intros;simp_all;done) | exact True.intro) ?_));exact bZ.get):A:=e ⟨⟩ ⟨⟩ ⟨b⟩
theorem Jo {A:Prop} (l0:List G) (e:Ar l0→A:=by intro x0;refine Z38 ?_;(try simp only [Qj,Xr]);have h:=Option.some.inj h;subst h;refine Zo2 (.inr rfl) hU x0.v (by omega) ?_;simp only [push_cast,seval,Zc,Ar.v,Ye,hN]):A:=e ⟨⟩
theorem uZ {A B:Prop} (l0:List Nat) (l1:List Bool) (b:B) (e:Ar l0→Ar l1→nI B→A:=by intro x0 x1 bZ;refine Zye ?_;(try simp only [Qj,Xr]);refine Zhj x0.v x1.v ?_;simp only [push_cast,seval,Ar.v];exact bZ.get):A:=e ⟨⟩ ⟨⟩ ⟨b⟩
theorem zQd {A B:Prop} (l0:List Nat) (l1:List Nat) (l2:List Bool) (b:B) (e:Ar l0→Ar l1→Ar l2→nI B→A:=by intro x0 x1 x2 bZ;refine yJ x0.v (Yv Yd [] ?_);simp only [push_cast,seval,Zc,Ar.v,Ye,hN];refine Zhj x1.v x2.v ?_;simp only [push_cast,seval,Ar.v];exact bZ.get):A:=e ⟨⟩ ⟨⟩ ⟨⟩ ⟨b⟩
theorem dM {A B:Prop} (l0:List (Option Bool)) {P1:Prop} (p1:P1) {P2:Prop} (p2:P2) {P3:Prop} (p3:P3) (b:B) (e:Ar l0→P1→P2→P3→nI B→A:=by intro x0 x1 x2 x3 bZ;refine Yv Yd x0.v ?_;simp only [push_cast,seval,-Int.reduceToNat,Zc,Ar.v,x1,x2,x3,Ye,hN];exact bZ.get):A:=e ⟨⟩ p1 p2 p3 ⟨b⟩
theorem zF3 {A B:Prop} {P0:Prop} (p0:P0) {P1:Prop} (p1:P1) {P2:Prop} (p2:P2) (b:B) (e:P0→P1→P2→nI B→A:=by intro x0 x1 x2 bZ;simp only [push_cast,seval,-Int.reduceToNat,Zc,x0,x1,x2,Ye,hN];exact bZ.get):A:=e p0 p1 p2 ⟨b⟩
theorem zD {A B:Prop} (l0:List Nat) (l1:List Bool) (b:B) (e:Ar l0→Ar l1→nI B→A:=by intro x0 x1 bZ;refine Zhj x0.v x1.v ?_;simp only [push_cast,seval,Ar.v];exact bZ.get):A:=e ⟨⟩ ⟨⟩ ⟨b⟩
theorem zR {A B:Prop} (b:B) (e:nI B→A:=by intro bZ;refine Yv Yd [] ?_;simp only [push_cast,seval,Zc,Ye,hN];exact bZ.get):A:=e ⟨b⟩
theorem cM {A:Prop} {P0:Prop} (p0:P0) (e:P0→A:=by intro x0;have h9:=Option.some.inj x0;subst h9;refine And.intro rfl (Fit2.of (Jw hU rfl rfl ?_) (by omega));simp only [push_cast,seval,Zc,Ye,hN]):A:=e p0
theorem zEx {A:Prop} {P0:Prop} (p0:P0) (e:P0→A:=by intro x0;refine Zyd ?_;(try simp only [Qj,Xr,↓reduceIte,Nat.reduceEqDiff]);have h9:=Option.some.inj x0;subst h9;refine And.intro (fun h=>by cases h) (And.intro rfl (Fit2.of (Jw hU rfl rfl ?_) (by omega)));simp only [push_cast,seval,Zc,Ye,hN]):A:=e p0
theorem zCd {A B:Prop} {P0:Prop} (p0:P0) (l1:List Nat) (l2:List Bool) (b:B) (e:P0→Ar l1→Ar l2→nI B→A:=by intro x0 x1 x2 bZ;refine Yv Yd [] ?_;simp only [push_cast,seval,Zc,Ye,hN];refine x0.then ?_;simp only [push_cast,seval,Zc,Ye,hN];refine Zhj x1.v x2.v ?_;simp only [push_cast,seval,Ar.v];exact bZ.get):A:=e p0 ⟨⟩ ⟨⟩ ⟨b⟩
theorem zC {A B:Prop} {P0:Prop} (p0:P0) (b:B) (e:P0→nI B→A:=by intro x0 bZ;refine Yv Yd [] ?_;simp only [push_cast,seval,Zc,Ye,hN];refine x0.then ?_;simp only [push_cast,seval,Zc,Ye,hN];exact bZ.get):A:=e p0 ⟨b⟩
theorem zK {A B:Prop} (b:B) (e:nI B→A:=by intro bZ;refine Zye ?_;(try simp only [Qj,Xr]);exact bZ.get):A:=e ⟨b⟩
theorem Zor {A B:Prop} (l0:List (Option Bool)) {P1:Prop} (p1:P1) {P2:Prop} (p2:P2) {P3:Prop} (p3:P3) {P4:Prop} (p4:P4) (b:B) (e:Ar l0→P1→P2→P3→P4→nI B→A:=by intro x0 x1 x2 x3 x4 bZ;refine Yv Yd x0.v ?_;simp only [push_cast,seval,-Int.reduceToNat,Zc,Ar.v,x1,x2,x3,x4,Ye,hN];exact bZ.get):A:=e ⟨⟩ p1 p2 p3 p4 ⟨b⟩
theorem zF4 {A B:Prop} {P0:Prop} (p0:P0) {P1:Prop} (p1:P1) {P2:Prop} (p2:P2) {P3:Prop} (p3:P3) (b:B) (e:P0→P1→P2→P3→nI B→A:=by intro x0 x1 x2 x3 bZ;simp only [push_cast,seval,-Int.reduceToNat,Zc,x0,x1,x2,x3,Ye,hN];exact bZ.get):A:=e p0 p1 p2 p3 ⟨b⟩
theorem lO {A B:Prop} (l0:List Nat) (l1:List Bool) (b:B) (e:Ar l0→Ar l1→nI B→A:=by intro x0 x1 bZ;refine Zhj x0.v x1.v ?_;simp only [push_cast,seval,Ar.v];refine Z7 ?_;exact bZ.get):A:=e ⟨⟩ ⟨⟩ ⟨b⟩
theorem zG {A B:Prop} (b:B) (e:nI B→A:=by intro bZ;(repeat (with_reducible refine And.intro (by first | (intro h0;simp only [h0,and_self];done) | (intro h0;simp only [h0,Bool.not_false,Bool.not_true,Bool.true_and,Bool.and_true,true_and,and_true,and_self,imp_self,implies_true,bne_iff_ne,ne_eq,beq_iff_eq];done) | (intros;simp_all;done) | exact True.intro) ?_));exact bZ.get):A:=e ⟨b⟩
theorem Z15 {A B:Prop} (l0:List (Option Bool)) {P1:Prop} (p1:P1) {P2:Prop} (p2:P2) {P3:Prop} (p3:P3) {P4:Prop} (p4:P4) {P5:Prop} (p5:P5) {P6:Prop} (p6:P6) {P7:Prop} (p7:P7) (b:B) (e:Ar l0→P1→P2→P3→P4→P5→P6→P7→nI B→A:=by intro x0 x1 x2 x3 x4 x5 x6 x7 bZ;refine Yv Yd x0.v ?_;simp only [push_cast,seval,-Int.reduceToNat,Zc,Ar.v,x1,x2,x3,x4,x5,x6,x7,Ye,hN];exact bZ.get):A:=e ⟨⟩ p1 p2 p3 p4 p5 p6 p7 ⟨b⟩
theorem zF7 {A B:Prop} {P0:Prop} (p0:P0) {P1:Prop} (p1:P1) {P2:Prop} (p2:P2) {P3:Prop} (p3:P3) {P4:Prop} (p4:P4) {P5:Prop} (p5:P5) {P6:Prop} (p6:P6) (b:B) (e:P0→P1→P2→P3→P4→P5→P6→nI B→A:=by intro x0 x1 x2 x3 x4 x5 x6 bZ;simp only [push_cast,seval,-Int.reduceToNat,Zc,x0,x1,x2,x3,x4,x5,x6,Ye,hN];exact bZ.get):A:=e p0 p1 p2 p3 p4 p5 p6 ⟨b⟩
theorem Z5g {A:Prop} {P0:Prop} (p0:P0) {P1:Prop} (p1:P1) {P2:Prop} (p2:P2) {P3:Prop} (p3:P3) {P4:Prop} (p4:P4) (e:P0→P1→P2→P3→P4→A:=by intro x0 x1 x2 x3 x4;have h9:=Option.some.inj x0;subst h9;refine And.intro rfl (Fit2.of (Jw hU rfl rfl ?_) (by omega));simp only [push_cast,seval,-Int.reduceToNat,Zc,x1,x2,x3,x4,Ye,hN]):A:=e p0 p1 p2 p3 p4
theorem zRd {A B:Prop} (l0:List Nat) (l1:List Bool) (b:B) (e:Ar l0→Ar l1→nI B→A:=by intro x0 x1 bZ;refine Yv Yd [] ?_;simp only [push_cast,seval,Zc,Ye,hN];refine Zhj x0.v x1.v ?_;simp only [push_cast,seval,Ar.v];exact bZ.get):A:=e ⟨⟩ ⟨⟩ ⟨b⟩
theorem zW {A B:Prop} (b:B) (e:nI B→A:=by intro bZ;refine Z38 ?_;(try simp only [Qj,Xr]);exact bZ.get):A:=e ⟨b⟩
theorem zEy {A:Prop} {P0:Prop} (p0:P0) (e:P0→A:=by intro x0;have h9:=Option.some.inj x0;subst h9;refine And.intro (fun h=>by cases h) (And.intro rfl (Fit2.of (Jw hU rfl rfl ?_) (by omega)));simp only [push_cast,seval,Zc,Ye,hN]):A:=e p0
theorem zX1 {A B:Prop} {P0:Prop} (p0:P0) (b:B) (e:P0→nI B→A:=by intro x0 bZ;simp only [push_cast,seval,Zc,x0,Ye,hN];exact bZ.get):A:=e p0 ⟨b⟩
theorem xJ {A:Prop} {P0:Prop} (p0:P0) {P1:Prop} (p1:P1) (e:P0→P1→A:=by intro x0 x1;have h9:=Option.some.inj x0;subst h9;refine And.intro rfl (Fit2.of (Jw hU rfl rfl ?_) (by omega));simp only [push_cast,seval,Zc,x1,Ye,hN]):A:=e p0 p1
theorem zX3 {A B:Prop} {P0:Prop} (p0:P0) {P1:Prop} (p1:P1) {P2:Prop} (p2:P2) (b:B) (e:P0→P1→P2→nI B→A:=by intro x0 x1 x2 bZ;simp only [push_cast,seval,Zc,x0,x1,x2,Ye,hN];exact bZ.get):A:=e p0 p1 p2 ⟨b⟩
theorem gE {A:Prop} {P0:Prop} (p0:P0) {P1:Prop} (p1:P1) {P2:Prop} (p2:P2) {P3:Prop} (p3:P3) (e:P0→P1→P2→P3→A:=by intro x0 x1 x2 x3;have h9:=Option.some.inj x0;subst h9;refine And.intro rfl (Fit2.of (Jw hU rfl rfl ?_) (by omega));simp only [push_cast,seval,Zc,x1,x2,x3,Ye,hN]):A:=e p0 p1 p2 p3
theorem zF8 {A B:Prop} {P0:Prop} (p0:P0) {P1:Prop} (p1:P1) {P2:Prop} (p2:P2) {P3:Prop} (p3:P3) {P4:Prop} (p4:P4) {P5:Prop} (p5:P5) {P6:Prop} (p6:P6) {P7:Prop} (p7:P7) (b:B) (e:P0→P1→P2→P3→P4→P5→P6→P7→nI B→A:=by intro x0 x1 x2 x3 x4 x5 x6 x7 bZ;simp only [push_cast,seval,-Int.reduceToNat,Zc,x0,x1,x2,x3,x4,x5,x6,x7,Ye,hN];exact bZ.get):A:=e p0 p1 p2 p3 p4 p5 p6 p7 ⟨b⟩
theorem Yco {A:Prop} {P0:Prop} (p0:P0) {P1:Prop} (p1:P1) {P2:Prop} (p2:P2) {P3:Prop} (p3:P3) {P4:Prop} (p4:P4) {P5:Prop} (p5:P5) {P6:Prop} (p6:P6) {P7:Prop} (p7:P7) {P8:Prop} (p8:P8) (e:P0→P1→P2→P3→P4→P5→P6→P7→P8→A:=by intro x0 x1 x2 x3 x4 x5 x6 x7 x8;have h9:=Option.some.inj x0;subst h9;refine And.intro rfl (Fit2.of (Jw hU rfl rfl ?_) (by omega));simp only [push_cast,seval,-Int.reduceToNat,Zc,x1,x2,x3,x4,x5,x6,x7,x8,Ye,hN]):A:=e p0 p1 p2 p3 p4 p5 p6 p7 p8
theorem zX5 {A B:Prop} {P0:Prop} (p0:P0) {P1:Prop} (p1:P1) {P2:Prop} (p2:P2) {P3:Prop} (p3:P3) {P4:Prop} (p4:P4) (b:B) (e:P0→P1→P2→P3→P4→nI B→A:=by intro x0 x1 x2 x3 x4 bZ;simp only [push_cast,seval,Zc,x0,x1,x2,x3,x4,Ye,hN];exact bZ.get):A:=e p0 p1 p2 p3 p4 ⟨b⟩
theorem Ycp {A:Prop} {P0:Prop} (p0:P0) {P1:Prop} (p1:P1) {P2:Prop} (p2:P2) {P3:Prop} (p3:P3) {P4:Prop} (p4:P4) {P5:Prop} (p5:P5) (e:P0→P1→P2→P3→P4→P5→A:=by intro x0 x1 x2 x3 x4 x5;have h9:=Option.some.inj x0;subst h9;refine And.intro rfl (Fit2.of (Jw hU rfl rfl ?_) (by omega));simp only [push_cast,seval,Zc,x1,x2,x3,x4,x5,Ye,hN]):A:=e p0 p1 p2 p3 p4 p5
theorem zX4 {A B:Prop} {P0:Prop} (p0:P0) {P1:Prop} (p1:P1) {P2:Prop} (p2:P2) {P3:Prop} (p3:P3) (b:B) (e:P0→P1→P2→P3→nI B→A:=by intro x0 x1 x2 x3 bZ;simp only [push_cast,seval,Zc,x0,x1,x2,x3,Ye,hN];exact bZ.get):A:=e p0 p1 p2 p3 ⟨b⟩
theorem Zwl {A:Prop} {P0:Prop} (p0:P0) {P1:Prop} (p1:P1) {P2:Prop} (p2:P2) {P3:Prop} (p3:P3) {P4:Prop} (p4:P4) (e:P0→P1→P2→P3→P4→A:=by intro x0 x1 x2 x3 x4;have h9:=Option.some.inj x0;subst h9;refine And.intro rfl (Fit2.of (Jw hU rfl rfl ?_) (by omega));simp only [push_cast,seval,Zc,x1,x2,x3,x4,Ye,hN]):A:=e p0 p1 p2 p3 p4
theorem Z13 {A:Prop} {P0:Prop} (p0:P0) {P1:Prop} (p1:P1) {P2:Prop} (p2:P2) {P3:Prop} (p3:P3) {P4:Prop} (p4:P4) {P5:Prop} (p5:P5) {P6:Prop} (p6:P6) {P7:Prop} (p7:P7) (e:P0→P1→P2→P3→P4→P5→P6→P7→A:=by intro x0 x1 x2 x3 x4 x5 x6 x7;have h9:=Option.some.inj x0;subst h9;refine And.intro rfl (Fit2.of (Jw hU rfl rfl ?_) (by omega));simp only [push_cast,seval,-Int.reduceToNat,Zc,x1,x2,x3,x4,x5,x6,x7,Ye,hN]):A:=e p0 p1 p2 p3 p4 p5 p6 p7
theorem jO {A:Prop} (l0:List G) (e:Ar l0→A:=by intro x0;have h:=Option.some.inj h;subst h;refine Zo2 (.inr rfl) hU x0.v (by omega) ?_;simp only [push_cast,seval,Zc,Ar.v,Ye,hN]):A:=e ⟨⟩
theorem Yfg {A B:Prop} (l0:List Nat) {P1:Prop} (p1:P1) (b:B) (e:Ar l0→P1→nI B→A:=by intro x0 x1 bZ;refine yJ x0.v (Yv Yd [] ?_);simp only [push_cast,seval,Zc,Ar.v,x1,Ye,hN];exact bZ.get):A:=e ⟨⟩ p1 ⟨b⟩
theorem vH {A B:Prop} (l0:List (Option Bool)) {P1:Prop} (p1:P1) {P2:Prop} (p2:P2) {P3:Prop} (p3:P3) (b:B) (e:Ar l0→P1→P2→P3→nI B→A:=by intro x0 x1 x2 x3 bZ;refine Yv Yd x0.v ?_;simp only [push_cast,seval,Zc,Ar.v,x1,x2,x3,Ye,hN];exact bZ.get):A:=e ⟨⟩ p1 p2 p3 ⟨b⟩
theorem Kc {A B:Prop} (l0:List (Option Bool)) {P1:Prop} (p1:P1) {P2:Prop} (p2:P2) (b:B) (e:Ar l0→P1→P2→nI B→A:=by intro x0 x1 x2 bZ;refine Yv Yd x0.v ?_;simp only [push_cast,seval,Zc,Ar.v,x1,x2,Ye,hN];exact bZ.get):A:=e ⟨⟩ p1 p2 ⟨b⟩
theorem Zwm {A B:Prop} (l0:List (Option Bool)) {P1:Prop} (p1:P1) {P2:Prop} (p2:P2) {P3:Prop} (p3:P3) {P4:Prop} (p4:P4) (b:B) (e:Ar l0→P1→P2→P3→P4→nI B→A:=by intro x0 x1 x2 x3 x4 bZ;refine Yv Yd x0.v ?_;simp only [push_cast,seval,Zc,Ar.v,x1,x2,x3,x4,Ye,hN];exact bZ.get):A:=e ⟨⟩ p1 p2 p3 p4 ⟨b⟩
theorem Qx {A:Prop} {P0:Prop} (p0:P0) {P1:Prop} (p1:P1) (e:P0→P1→A:=by intro x0 x1;simp only [push_cast,seval,Zc,x0,x1,Ye,hN]):A:=e p0 p1
theorem eR {A B:Prop} {P0:Prop} (p0:P0) {P1:Prop} (p1:P1) (b:B) (e:P0→P1→nI B→A:=by intro x0 x1 bZ;simp only [push_cast,seval,Zc,x0,x1,Ye,hN];exact bZ.get):A:=e p0 p1 ⟨b⟩
theorem rS {A:Prop} {P0:Prop} (p0:P0) {P1:Prop} (p1:P1) {P2:Prop} (p2:P2) (e:P0→P1→P2→A:=by intro x0 x1 x2;have h9:=Option.some.inj x0;subst h9;refine And.intro rfl (Fit2.of (Jw hU rfl rfl ?_) (by omega));simp only [push_cast,seval,Zc,x1,x2,Ye,hN]):A:=e p0 p1 p2
theorem yU {A B:Prop} (l0:List (Option Bool)) {P1:Prop} (p1:P1) (b:B) (e:Ar l0→P1→nI B→A:=by intro x0 x1 bZ;refine Yv Yd x0.v ?_;simp only [push_cast,seval,Zc,Ar.v,x1,Ye,hN];exact bZ.get):A:=e ⟨⟩ p1 ⟨b⟩
theorem Yfh {A:Prop} {P0:Prop} (p0:P0) {P1:Prop} (p1:P1) {P2:Prop} (p2:P2) {P3:Prop} (p3:P3) (e:P0→P1→P2→P3→A:=by intro x0 x1 x2 x3;simp only [push_cast,seval,Zc,x0,x1,x2,x3,Ye,hN]):A:=e p0 p1 p2 p3
theorem Yct {A B:Prop} (l0:List Nat) {P1:Prop} (p1:P1) {P2:Prop} (p2:P2) {P3:Prop} (p3:P3) {P4:Prop} (p4:P4) (b:B) (e:Ar l0→P1→P2→P3→P4→nI B→A:=by intro x0 x1 x2 x3 x4 bZ;refine yJ x0.v (Yv Yd [] ?_);simp only [push_cast,seval,Zc,Ar.v,x1,x2,x3,x4,Ye,hN];exact bZ.get):A:=e ⟨⟩ p1 p2 p3 p4 ⟨b⟩
theorem Ztl {A B:Prop} (l0:List (Option Bool)) {P1:Prop} (p1:P1) {P2:Prop} (p2:P2) {P3:Prop} (p3:P3) {P4:Prop} (p4:P4) {P5:Prop} (p5:P5) (b:B) (e:Ar l0→P1→P2→P3→P4→P5→nI B→A:=by intro x0 x1 x2 x3 x4 x5 bZ;refine Yv Yd x0.v ?_;simp only [push_cast,seval,-Int.reduceToNat,Zc,Ar.v,x1,x2,x3,x4,x5,Ye,hN];exact bZ.get):A:=e ⟨⟩ p1 p2 p3 p4 p5 ⟨b⟩
theorem Ycn {A:Prop} {P0:Prop} (p0:P0) {P1:Prop} (p1:P1) {P2:Prop} (p2:P2) {P3:Prop} (p3:P3) {P4:Prop} (p4:P4) {P5:Prop} (p5:P5) (e:P0→P1→P2→P3→P4→P5→A:=by intro x0 x1 x2 x3 x4 x5;have h9:=Option.some.inj x0;subst h9;refine And.intro rfl (Fit2.of (Jw hU rfl rfl ?_) (by omega));simp only [push_cast,seval,-Int.reduceToNat,Zc,x1,x2,x3,x4,x5,Ye,hN]):A:=e p0 p1 p2 p3 p4 p5
theorem zS {A B:Prop} (b:B) (e:nI B→A:=by intro bZ;simp only [push_cast,seval,Zc,Ye,hN];exact bZ.get):A:=e ⟨b⟩
theorem zTs {A B:Prop} {P0:Prop} (p0:P0) (b:B) (e:P0→nI B→A:=by intro x0 bZ;refine x0.then ?_;simp only [push_cast,seval,Zc,Ye,hN];exact bZ.get):A:=e p0 ⟨b⟩
theorem lC {A:Prop} (e:A:=by simp only [push_cast,seval,Zc,Ye,hN]):A:=e
theorem fZ {A B:Prop} (l0:List Nat) {P1:Prop} (p1:P1) {P2:Prop} (p2:P2) (b:B) (e:Ar l0→P1→P2→nI B→A:=by intro x0 x1 x2 bZ;refine yJ x0.v (Yv Yd [] ?_);simp only [push_cast,seval,Zc,Ar.v,x1,x2,Ye,hN];exact bZ.get):A:=e ⟨⟩ p1 p2 ⟨b⟩
theorem zF9 {A B:Prop} {P0:Prop} (p0:P0) {P1:Prop} (p1:P1) {P2:Prop} (p2:P2) {P3:Prop} (p3:P3) {P4:Prop} (p4:P4) {P5:Prop} (p5:P5) {P6:Prop} (p6:P6) {P7:Prop} (p7:P7) {P8:Prop} (p8:P8) (b:B) (e:P0→P1→P2→P3→P4→P5→P6→P7→P8→nI B→A:=by intro x0 x1 x2 x3 x4 x5 x6 x7 x8 bZ;simp only [push_cast,seval,-Int.reduceToNat,Zc,x0,x1,x2,x3,x4,x5,x6,x7,x8,Ye,hN];exact bZ.get):A:=e p0 p1 p2 p3 p4 p5 p6 p7 p8 ⟨b⟩
theorem zO {A B:Prop} (b:B) (e:nI B→A:=by intro bZ;(repeat (with_reducible refine And.intro (by first | omega | exact Yi rfl | exact Yc | exact Znz rfl | exact Zj4 rfl rfl | exact Yk rfl | exact Yg rfl) ?_));exact bZ.get):A:=e ⟨b⟩
theorem Zqf {A:Prop} {P0:Prop} (p0:P0) {P1:Prop} (p1:P1) {P2:Prop} (p2:P2) {P3:Prop} (p3:P3) {P4:Prop} (p4:P4) {P5:Prop} (p5:P5) {P6:Prop} (p6:P6) {P7:Prop} (p7:P7) {P8:Prop} (p8:P8) (e:P0→P1→P2→P3→P4→P5→P6→P7→P8→A:=by intro x0 x1 x2 x3 x4 x5 x6 x7 x8;simp only [push_cast,seval,-Int.reduceToNat,Zc,x0,x1,x2,x3,x4,x5,x6,x7,x8,Ye,hN]):A:=e p0 p1 p2 p3 p4 p5 p6 p7 p8
theorem zXt {A B:Prop} (b:B) (e:nI B→A:=by intro bZ;refine Zyd ?_;(try simp only [Qj,Xr,↓reduceIte,Nat.reduceEqDiff]);exact bZ.get):A:=e ⟨b⟩
theorem Z36 {A:Prop} {P0:Prop} (p0:P0) {P1:Prop} (p1:P1) {P2:Prop} (p2:P2) (e:P0→P1→P2→A:=by intro x0 x1 x2;simp only [push_cast,seval,Zc,x0,x1,x2,Ye,hN]):A:=e p0 p1 p2
theorem zF6 {A B:Prop} {P0:Prop} (p0:P0) {P1:Prop} (p1:P1) {P2:Prop} (p2:P2) {P3:Prop} (p3:P3) {P4:Prop} (p4:P4) {P5:Prop} (p5:P5) (b:B) (e:P0→P1→P2→P3→P4→P5→nI B→A:=by intro x0 x1 x2 x3 x4 x5 bZ;simp only [push_cast,seval,-Int.reduceToNat,Zc,x0,x1,x2,x3,x4,x5,Ye,hN];exact bZ.get):A:=e p0 p1 p2 p3 p4 p5 ⟨b⟩
theorem Ycw {A B:Prop} (l0:List (Option Bool)) {P1:Prop} (p1:P1) {P2:Prop} (p2:P2) {P3:Prop} (p3:P3) {P4:Prop} (p4:P4) {P5:Prop} (p5:P5) (b:B) (e:Ar l0→P1→P2→P3→P4→P5→nI B→A:=by intro x0 x1 x2 x3 x4 x5 bZ;refine Yv Yd x0.v ?_;simp only [push_cast,seval,Zc,Ar.v,x1,x2,x3,x4,x5,Ye,hN];exact bZ.get):A:=e ⟨⟩ p1 p2 p3 p4 p5 ⟨b⟩
theorem Z37 {A:Prop} {P0:Prop} (p0:P0) {P1:Prop} (p1:P1) {P2:Prop} (p2:P2) {P3:Prop} (p3:P3) {P4:Prop} (p4:P4) (e:P0→P1→P2→P3→P4→A:=by intro x0 x1 x2 x3 x4;simp only [push_cast,seval,Zc,x0,x1,x2,x3,x4,Ye,hN]):A:=e p0 p1 p2 p3 p4
theorem Ycv {A B:Prop} (l0:List (Option Bool)) {P1:Prop} (p1:P1) {P2:Prop} (p2:P2) {P3:Prop} (p3:P3) {P4:Prop} (p4:P4) {P5:Prop} (p5:P5) {P6:Prop} (p6:P6) (b:B) (e:Ar l0→P1→P2→P3→P4→P5→P6→nI B→A:=by intro x0 x1 x2 x3 x4 x5 x6 bZ;refine Yv Yd x0.v ?_;simp only [push_cast,seval,-Int.reduceToNat,Zc,Ar.v,x1,x2,x3,x4,x5,x6,Ye,hN];exact bZ.get):A:=e ⟨⟩ p1 p2 p3 p4 p5 p6 ⟨b⟩
theorem Z7j {A:Prop} {P0:Prop} (p0:P0) {P1:Prop} (p1:P1) {P2:Prop} (p2:P2) {P3:Prop} (p3:P3) {P4:Prop} (p4:P4) {P5:Prop} (p5:P5) (e:P0→P1→P2→P3→P4→P5→A:=by intro x0 x1 x2 x3 x4 x5;simp only [push_cast,seval,-Int.reduceToNat,Zc,x0,x1,x2,x3,x4,x5,Ye,hN]):A:=e p0 p1 p2 p3 p4 p5
theorem zEf {A:Prop} (e:A:=by refine And.intro rfl (Fit2.of (Jw hU rfl rfl ?_) (by omega));simp only [push_cast,seval,Zc,Ye,hN]):A:=e
theorem zRo {A B:Prop} (l0:List (Option Bool)) (b:B) (e:Ar l0→nI B→A:=by intro x0 bZ;refine Yv Yd x0.v ?_;simp only [push_cast,seval,Zc,Ar.v,Ye,hN];exact bZ.get):A:=e ⟨⟩ ⟨b⟩
theorem zX6 {A B:Prop} {P0:Prop} (p0:P0) {P1:Prop} (p1:P1) {P2:Prop} (p2:P2) {P3:Prop} (p3:P3) {P4:Prop} (p4:P4) {P5:Prop} (p5:P5) (b:B) (e:P0→P1→P2→P3→P4→P5→nI B→A:=by intro x0 x1 x2 x3 x4 x5 bZ;simp only [push_cast,seval,Zc,x0,x1,x2,x3,x4,x5,Ye,hN];exact bZ.get):A:=e p0 p1 p2 p3 p4 p5 ⟨b⟩
theorem Z16 {A B:Prop} (l0:List (Option Bool)) {P1:Prop} (p1:P1) {P2:Prop} (p2:P2) {P3:Prop} (p3:P3) {P4:Prop} (p4:P4) {P5:Prop} (p5:P5) {P6:Prop} (p6:P6) (b:B) (e:Ar l0→P1→P2→P3→P4→P5→P6→nI B→A:=by intro x0 x1 x2 x3 x4 x5 x6 bZ;refine Yv Yd x0.v ?_;simp only [push_cast,seval,Zc,Ar.v,x1,x2,x3,x4,x5,x6,Ye,hN];exact bZ.get):A:=e ⟨⟩ p1 p2 p3 p4 p5 p6 ⟨b⟩
theorem zF5 {A B:Prop} {P0:Prop} (p0:P0) {P1:Prop} (p1:P1) {P2:Prop} (p2:P2) {P3:Prop} (p3:P3) {P4:Prop} (p4:P4) (b:B) (e:P0→P1→P2→P3→P4→nI B→A:=by intro x0 x1 x2 x3 x4 bZ;simp only [push_cast,seval,-Int.reduceToNat,Zc,x0,x1,x2,x3,x4,Ye,hN];exact bZ.get):A:=e p0 p1 p2 p3 p4 ⟨b⟩
theorem Ycu {A B:Prop} {P0:Prop} (p0:P0) {P1:Prop} (p1:P1) {P2:Prop} (p2:P2) {P3:Prop} (p3:P3) {P4:Prop} (p4:P4) {P5:Prop} (p5:P5) {P6:Prop} (p6:P6) {P7:Prop} (p7:P7) {P8:Prop} (p8:P8) {P9:Prop} (p9:P9) (b:B) (e:P0→P1→P2→P3→P4→P5→P6→P7→P8→P9→nI B→A:=by intro x0 x1 x2 x3 x4 x5 x6 x7 x8 x9 bZ;refine Yv Yd [] ?_;simp only [push_cast,seval,-Int.reduceToNat,Zc,x0,x1,x2,x3,x4,x5,x6,x7,x8,x9,Ye,hN];exact bZ.get):A:=e p0 p1 p2 p3 p4 p5 p6 p7 p8 p9 ⟨b⟩
theorem Z7i {A B:Prop} {P0:Prop} (p0:P0) {P1:Prop} (p1:P1) {P2:Prop} (p2:P2) {P3:Prop} (p3:P3) {P4:Prop} (p4:P4) {P5:Prop} (p5:P5) {P6:Prop} (p6:P6) {P7:Prop} (p7:P7) {P8:Prop} (p8:P8) {P9:Prop} (p9:P9) {P10:Prop} (p10:P10) {P11:Prop} (p11:P11) (b:B) (e:P0→P1→P2→P3→P4→P5→P6→P7→P8→P9→P10→P11→nI B→A:=by intro x0 x1 x2 x3 x4 x5 x6 x7 x8 x9 dB sH bZ;simp only [push_cast,seval,-Int.reduceToNat,Zc,x0,x1,x2,x3,x4,x5,x6,x7,x8,x9,dB,sH,Ye,hN];exact bZ.get):A:=e p0 p1 p2 p3 p4 p5 p6 p7 p8 p9 p10 p11 ⟨b⟩
theorem Z14 {A:Prop} {P0:Prop} (p0:P0) {P1:Prop} (p1:P1) {P2:Prop} (p2:P2) {P3:Prop} (p3:P3) {P4:Prop} (p4:P4) {P5:Prop} (p5:P5) {P6:Prop} (p6:P6) {P7:Prop} (p7:P7) {P8:Prop} (p8:P8) {P9:Prop} (p9:P9) {P10:Prop} (p10:P10) {P11:Prop} (p11:P11) (e:P0→P1→P2→P3→P4→P5→P6→P7→P8→P9→P10→P11→A:=by intro x0 x1 x2 x3 x4 x5 x6 x7 x8 x9 dB sH;simp only [push_cast,seval,-Int.reduceToNat,Zc,x0,x1,x2,x3,x4,x5,x6,x7,x8,x9,dB,sH,Ye,hN]):A:=e p0 p1 p2 p3 p4 p5 p6 p7 p8 p9 p10 p11
theorem Z35 {A B:Prop} {P0:Prop} (p0:P0) {P1:Prop} (p1:P1) {P2:Prop} (p2:P2) {P3:Prop} (p3:P3) {P4:Prop} (p4:P4) {P5:Prop} (p5:P5) {P6:Prop} (p6:P6) {P7:Prop} (p7:P7) {P8:Prop} (p8:P8) {P9:Prop} (p9:P9) (b:B) (e:P0→P1→P2→P3→P4→P5→P6→P7→P8→P9→nI B→A:=by intro x0 x1 x2 x3 x4 x5 x6 x7 x8 x9 bZ;simp only [push_cast,seval,-Int.reduceToNat,Zc,x0,x1,x2,x3,x4,x5,x6,x7,x8,x9,Ye,hN];exact bZ.get):A:=e p0 p1 p2 p3 p4 p5 p6 p7 p8 p9 ⟨b⟩
theorem Ycr {A:Prop} {P0:Prop} (p0:P0) {P1:Prop} (p1:P1) {P2:Prop} (p2:P2) {P3:Prop} (p3:P3) {P4:Prop} (p4:P4) {P5:Prop} (p5:P5) {P6:Prop} (p6:P6) {P7:Prop} (p7:P7) {P8:Prop} (p8:P8) {P9:Prop} (p9:P9) (e:P0→P1→P2→P3→P4→P5→P6→P7→P8→P9→A:=by intro x0 x1 x2 x3 x4 x5 x6 x7 x8 x9;simp only [push_cast,seval,-Int.reduceToNat,Zc,x0,x1,x2,x3,x4,x5,x6,x7,x8,x9,Ye,hN]):A:=e p0 p1 p2 p3 p4 p5 p6 p7 p8 p9
theorem Ycx {A:Prop} {P0:Prop} (p0:P0) {P1:Prop} (p1:P1) {P2:Prop} (p2:P2) {P3:Prop} (p3:P3) {P4:Prop} (p4:P4) {P5:Prop} (p5:P5) (e:P0→P1→P2→P3→P4→P5→A:=by intro x0 x1 x2 x3 x4 x5;simp only [push_cast,seval,Zc,x0,x1,x2,x3,x4,x5,Ye,hN]):A:=e p0 p1 p2 p3 p4 p5
theorem Z5h {A B:Prop} (b:B) (e:nI B→A:=by intro bZ;(repeat (with_reducible refine And.intro (by first | omega | exact Yi rfl | exact Yc | exact Znz rfl | exact Zj4 rfl rfl | exact Yk rfl | exact Yg rfl | exact Zqk | exact Zyj | exact Zyk) ?_));exact bZ.get):A:=e ⟨b⟩
theorem Ycq {A B:Prop} {P0:Prop} (p0:P0) {P1:Prop} (p1:P1) {P2:Prop} (p2:P2) {P3:Prop} (p3:P3) {P4:Prop} (p4:P4) {P5:Prop} (p5:P5) {P6:Prop} (p6:P6) {P7:Prop} (p7:P7) {P8:Prop} (p8:P8) {P9:Prop} (p9:P9) {P10:Prop} (p10:P10) (b:B) (e:P0→P1→P2→P3→P4→P5→P6→P7→P8→P9→P10→nI B→A:=by intro x0 x1 x2 x3 x4 x5 x6 x7 x8 x9 dB bZ;simp only [push_cast,seval,-Int.reduceToNat,Zc,x0,x1,x2,x3,x4,x5,x6,x7,x8,x9,dB,Ye,hN];exact bZ.get):A:=e p0 p1 p2 p3 p4 p5 p6 p7 p8 p9 p10 ⟨b⟩
theorem Ycs {A:Prop} {P0:Prop} (p0:P0) {P1:Prop} (p1:P1) {P2:Prop} (p2:P2) {P3:Prop} (p3:P3) {P4:Prop} (p4:P4) {P5:Prop} (p5:P5) {P6:Prop} (p6:P6) {P7:Prop} (p7:P7) {P8:Prop} (p8:P8) {P9:Prop} (p9:P9) {P10:Prop} (p10:P10) (e:P0→P1→P2→P3→P4→P5→P6→P7→P8→P9→P10→A:=by intro x0 x1 x2 x3 x4 x5 x6 x7 x8 x9 dB;simp only [push_cast,seval,-Int.reduceToNat,Zc,x0,x1,x2,x3,x4,x5,x6,x7,x8,x9,dB,Ye,hN]):A:=e p0 p1 p2 p3 p4 p5 p6 p7 p8 p9 p10
theorem Ycm {A:Prop} {P0:Prop} (p0:P0) {P1:Prop} (p1:P1) {P2:Prop} (p2:P2) {P3:Prop} (p3:P3) {P4:Prop} (p4:P4) {P5:Prop} (p5:P5) (e:P0→P1→P2→P3→P4→P5→A:=by intro x0 x1 x2 x3 x4 x5;refine And.intro rfl (Fit2.of (Jw hU rfl rfl ?_) (by omega));simp only [push_cast,seval,-Int.reduceToNat,Zc,x0,x1,x2,x3,x4,x5,Ye,hN]):A:=e p0 p1 p2 p3 p4 p5
def Zlv (ρ:Nat→Nat) (q:GObj):GObj:=⟨q.row,q.ty,q.sz,q.n,G.rens ρ q.cells⟩
def bkL (ρ:Nat→Nat) (l:List (Option GObj)):List Nat→List (Option GObj)
 | []=>[]
 | p::ps=>(l.getD p none).map (Zlv ρ)::bkL ρ l ps
theorem fr0 {X:Objs} {E E' E'':Env} {l lm l'':List (Option GObj)} {n n0 k k':Nat} (hU:Und X n) (pi ta:List Nat) (hm:((⟨E''.n,E''.keep,mR (xH n ta) E''.l⟩:Env),bkL (xH n ta) l'' pi)=(E',lm)) (h1:fM (Yn X n l) (Yn X n lm) (n+k) l lm∧Za4 (Yn X n l) (Yn X n lm) (n+k) E.l E'.l) (h2:tW (xH n pi) lm l'' ta∧mR (xH n pi) E'.l=E''.l) (hn:E''.n=E.n:=by rfl) (hk:lm.length=k:=by rfl) (hk':l''.length=k':=by rfl) (hp:pi.length=k:=by rfl) (hc:Zlu pi ta (l''.map Option.isSome)=true:=by rfl):Fit2 n E (Yn X n l) n0 E'' (Yn X n l'') (n+k'):=by
 have e:=(Prod.mk.inj hm).1
 have e1:E''.n=E'.n:=by rw [← e]
 have e2:E''.keep=E'.keep:=by rw [← e]
 exact Fit2.trans (E':=E') (Fit2.of (Jw hU hk (e1.symm.trans hn) h1) (Nat.le_add_right _ _)) (Zc0 hU pi ta hk hk' hp hc ⟨e1,e2⟩ h2)
theorem uS {X:Objs} {E E' E'':Env} {l lm l'':List (Option GObj)} {n n0 k k':Nat} {i0:Nat} {a0 b0 c0:GObj} (hU:Und X n) (pi ta:List Nat) (hm:((⟨E''.n,E''.keep,mR (xH n ta) E''.l⟩:Env),bkL (xH n ta) l'' pi,Zlv (xH n ta) c0)=(E',lm,b0)) (h1:yK a0 b0∧bV (Yn (X.upd i0 (some a0)) n l) (Yn (X.upd i0 (some b0)) n lm) (n+k) a0.cells b0.cells∧fM (Yn (X.upd i0 (some a0)) n l) (Yn (X.upd i0 (some b0)) n lm) (n+k) l lm∧Za4 (Yn (X.upd i0 (some a0)) n l) (Yn (X.upd i0 (some b0)) n lm) (n+k) E.l E'.l) (h2:qC (xH n pi) b0 c0∧tW (xH n pi) lm l'' ta∧mR (xH n pi) E'.l=E''.l) (hn:E''.n=E.n:=by rfl) (hk:lm.length=k:=by rfl) (hk':l''.length=k':=by rfl) (hp:pi.length=k:=by rfl) (hc:Zlu pi ta (l''.map Option.isSome)=true:=by rfl):Fit2 n E (Yn (X.upd i0 (some a0)) n l) n0 E'' (Yn (X.upd i0 (some c0)) n l'') (n+k'):=by
 have e:=(Prod.mk.inj hm).1
 have e1:E''.n=E'.n:=by rw [← e]
 have e2:E''.keep=E'.keep:=by rw [← e]
 exact Fit2.trans (E':=E') (Fit2.of (Xy hU hk (e1.symm.trans hn) h1) (Nat.le_add_right _ _)) (Zr4 hU pi ta hk hk' hp hc ⟨e1,e2⟩ h2)
theorem fr2 {X:Objs} {E E' E'':Env} {l lm l'':List (Option GObj)} {n n0 k k':Nat} {i0 i1:Nat} {a0 b0 c0 a1 b1 c1:GObj} (hU:Und X n) (pi ta:List Nat) (hm:((⟨E''.n,E''.keep,mR (xH n ta) E''.l⟩:Env),bkL (xH n ta) l'' pi,Zlv (xH n ta) c0,Zlv (xH n ta) c1)=(E',lm,b0,b1)) (h1:yK a0 b0∧bV (Yn ((X.upd i0 (some a0)).upd i1 (some a1)) n l) (Yn ((X.upd i0 (some b0)).upd i1 (some b1)) n lm) (n+k) a0.cells b0.cells∧yK a1 b1∧bV (Yn ((X.upd i0 (some a0)).upd i1 (some a1)) n l) (Yn ((X.upd i0 (some b0)).upd i1 (some b1)) n lm) (n+k) a1.cells b1.cells∧fM (Yn ((X.upd i0 (some a0)).upd i1 (some a1)) n l) (Yn ((X.upd i0 (some b0)).upd i1 (some b1)) n lm) (n+k) l lm∧Za4 (Yn ((X.upd i0 (some a0)).upd i1 (some a1)) n l) (Yn ((X.upd i0 (some b0)).upd i1 (some b1)) n lm) (n+k) E.l E'.l) (h2:qC (xH n pi) b0 c0∧qC (xH n pi) b1 c1∧tW (xH n pi) lm l'' ta∧mR (xH n pi) E'.l=E''.l) (hn:E''.n=E.n:=by rfl) (hk:lm.length=k:=by rfl) (hk':l''.length=k':=by rfl) (hp:pi.length=k:=by rfl) (hc:Zlu pi ta (l''.map Option.isSome)=true:=by rfl):Fit2 n E (Yn ((X.upd i0 (some a0)).upd i1 (some a1)) n l) n0 E'' (Yn ((X.upd i0 (some c0)).upd i1 (some c1)) n l'') (n+k'):=by
 have e:=(Prod.mk.inj hm).1
 have e1:E''.n=E'.n:=by rw [← e]
 have e2:E''.keep=E'.keep:=by rw [← e]
 exact Fit2.trans (E':=E') (Fit2.of (bK hU hk (e1.symm.trans hn) h1) (Nat.le_add_right _ _)) (Zx6 hU pi ta hk hk' hp hc ⟨e1,e2⟩ h2)
theorem fr3 {X:Objs} {E E' E'':Env} {l lm l'':List (Option GObj)} {n n0 k k':Nat} {i0 i1 i2:Nat} {a0 b0 c0 a1 b1 c1 a2 b2 c2:GObj} (hU:Und X n) (pi ta:List Nat) (hm:((⟨E''.n,E''.keep,mR (xH n ta) E''.l⟩:Env),bkL (xH n ta) l'' pi,Zlv (xH n ta) c0,Zlv (xH n ta) c1,Zlv (xH n ta) c2)=(E',lm,b0,b1,b2)) (h1:yK a0 b0∧bV (Yn (((X.upd i0 (some a0)).upd i1 (some a1)).upd i2 (some a2)) n l) (Yn (((X.upd i0 (some b0)).upd i1 (some b1)).upd i2 (some b2)) n lm) (n+k) a0.cells b0.cells∧yK a1 b1∧bV (Yn (((X.upd i0 (some a0)).upd i1 (some a1)).upd i2 (some a2)) n l) (Yn (((X.upd i0 (some b0)).upd i1 (some b1)).upd i2 (some b2)) n lm) (n+k) a1.cells b1.cells∧yK a2 b2∧bV (Yn (((X.upd i0 (some a0)).upd i1 (some a1)).upd i2 (some a2)) n l) (Yn (((X.upd i0 (some b0)).upd i1 (some b1)).upd i2 (some b2)) n lm) (n+k) a2.cells b2.cells∧fM (Yn (((X.upd i0 (some a0)).upd i1 (some a1)).upd i2 (some a2)) n l) (Yn (((X.upd i0 (some b0)).upd i1 (some b1)).upd i2 (some b2)) n lm) (n+k) l lm∧Za4 (Yn (((X.upd i0 (some a0)).upd i1 (some a1)).upd i2 (some a2)) n l) (Yn (((X.upd i0 (some b0)).upd i1 (some b1)).upd i2 (some b2)) n lm) (n+k) E.l E'.l) (h2:qC (xH n pi) b0 c0∧qC (xH n pi) b1 c1∧qC (xH n pi) b2 c2∧tW (xH n pi) lm l'' ta∧mR (xH n pi) E'.l=E''.l) (hn:E''.n=E.n:=by rfl) (hk:lm.length=k:=by rfl) (hk':l''.length=k':=by rfl) (hp:pi.length=k:=by rfl) (hc:Zlu pi ta (l''.map Option.isSome)=true:=by rfl):Fit2 n E (Yn (((X.upd i0 (some a0)).upd i1 (some a1)).upd i2 (some a2)) n l) n0 E'' (Yn (((X.upd i0 (some c0)).upd i1 (some c1)).upd i2 (some c2)) n l'') (n+k'):=by
 have e:=(Prod.mk.inj hm).1
 have e1:E''.n=E'.n:=by rw [← e]
 have e2:E''.keep=E'.keep:=by rw [← e]
 exact Fit2.trans (E':=E') (Fit2.of (Kl hU hk (e1.symm.trans hn) h1) (Nat.le_add_right _ _)) (Zoi hU pi ta hk hk' hp hc ⟨e1,e2⟩ h2)
theorem zM0 {A:Prop} (e:A:=by (simp only [push_cast,seval,Zc,bkL,Zlv,List.getD_cons_zero,List.getD_cons_succ,List.getD_nil,Option.map_some,Option.map_none]) <;> rfl):A:=e
theorem lT {A:Prop} {P0:Prop} (p0:P0) (e:P0→A:=by intro x0;(simp only [push_cast,seval,Zc,bkL,Zlv,List.getD_cons_zero,List.getD_cons_succ,List.getD_nil,Option.map_some,Option.map_none,x0]) <;> rfl):A:=e p0
theorem zM2 {A:Prop} {P0:Prop} (p0:P0) {P1:Prop} (p1:P1) (e:P0→P1→A:=by intro x0 x1;(simp only [push_cast,seval,Zc,bkL,Zlv,List.getD_cons_zero,List.getD_cons_succ,List.getD_nil,Option.map_some,Option.map_none,x0,x1]) <;> rfl):A:=e p0 p1
theorem zM3 {A:Prop} {P0:Prop} (p0:P0) {P1:Prop} (p1:P1) {P2:Prop} (p2:P2) (e:P0→P1→P2→A:=by intro x0 x1 x2;(simp only [push_cast,seval,Zc,bkL,Zlv,List.getD_cons_zero,List.getD_cons_succ,List.getD_nil,Option.map_some,Option.map_none,x0,x1,x2]) <;> rfl):A:=e p0 p1 p2
end Go.Proofs.Ytocpndlnbmjpmaa
