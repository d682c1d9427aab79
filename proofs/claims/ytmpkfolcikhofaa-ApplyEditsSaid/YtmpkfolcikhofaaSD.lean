/- Part SD of this seat's mirrors: functions of the seat's program, and the plain functions that they are; each theorem bears its own conditions. -/
import Derived.Test.YtmpkfolcikhofaaH25
namespace Go.Proofs.Ytmpkfolcikhofaa
open Go.RowKit
set_option linter.unusedVariables false
set_option linter.unusedSimpArgs false
set_option maxRecDepth 100000
set_option maxHeartbeats 1000000
structure S_api_Tree where
 Kind:Int
 Words:(List Int)
 Kids:(List S_api_Tree)
noncomputable def Xi (Qy:(S_api_Tree→Int→Int→Option Int)) (a0:S_api_Tree) (a1:Int) (s0_:(Int×Int)):Option ((Int×Int) ⊕ Int) :=
 cond (cond (decide (s0_.2 < (a0.Kids.length:Int))) (decide (0≤s0_.1)) false) ((Xc a0.Kids s0_.2).bind fun x1=>(Qy x1 (IntKind.i64.wrap (a1 - 1)) s0_.1).bind fun y2=>some (.inl (y2,(IntKind.i64.wrap (s0_.2+1))))) (some (.inr s0_.1))
noncomputable def Xo (Qy:(S_api_Tree→Int→Int→Option Int)) (a0:S_api_Tree) (a1:Int) (a2:Int):Option Int :=
 cond (cond (a1 == 0) true (decide ((IntKind.i64.wrap ((IntKind.i64.wrap (a2 - 1)) - (a0.Words.length:Int))) < 0))) (some (-1)) ((Zw (Xi Qy a0 a1) ((IntKind.i64.wrap ((IntKind.i64.wrap (a2 - 1)) - (a0.Words.length:Int))),0)).bind fun (z4:Int)=>some z4)
noncomputable def Yo:Nat→(S_api_Tree→Int→Int→Option Int)
 | 0=>(fun _ _ _=>none)
 | k+1=>Xo ((Yo k))
noncomputable def Xq (a0:S_api_Tree) (a1:Int) (a2:Int):Option Int:=lim fun k=>(Yo k) a0 a1 a2
noncomputable def U1 (a0:S_api_Tree):Option Bool :=
 (Xq a0 80 3000).bind fun y2=>some (decide (0≤y2))
noncomputable def Zbc (a0:Int):Option Int :=
 cond (a0 == 0) (some 0) (cond (a0 == 1) (some 1) (cond (a0 == 2) (some 8) (cond (a0 == 3) (some 16) (cond (a0 == 4) (some 32) (cond (a0 == 5) (some 64) (some (-1)))))))
noncomputable def Xp (y2:Int) (s0_:(Int×Int)):Option ((Int×Int) ⊕ Int) :=
 cond (decide (s0_.2 < y2)) (some (.inl ((IntKind.u64.wrap (Int.tdiv s0_.1 2)),(IntKind.i64.wrap (s0_.2+1))))) (some (.inr s0_.1))
noncomputable def Kv (a0:Int) (a1:Int):Option Bool :=
 (Zbc a0).bind fun y2=>cond (decide (y2 < 0)) (some false) ((Zw (Xp y2) (a1,0)).bind fun (z4:Int)=>some (z4 == 0))
noncomputable def Jc (Jx:(S_api_Tree→Int→Option Bool)) (a0:S_api_Tree) (a1:Int) (s0_:Int):Option (Int ⊕ (Unit ⊕ Unit)) :=
 cond (decide (s0_ < (a0.Kids.length:Int))) ((Xc a0.Kids s0_).bind fun x2=>(Jx x2 (IntKind.i64.wrap (a1 - 1))).bind fun y4=>cond (!y4) (some (.inr (.inl ()))) ((cond ((cond (decide (2≤a0.Kind)) (decide (a0.Kind≤7)) false) != (x2.Kind == 10)) (some true) (cond (a0.Kind == 9) (cond (x2.Kind != 1) (some true) (cond (decide (2≤a0.Kind)) (cond (decide (a0.Kind≤7)) ((Xc x2.Words 0).bind fun x14=>(Kv (IntKind.i64.wrap (a0.Kind - 2)) x14).bind fun y15=>some (cond (cond ((cond (decide (2≤a0.Kind)) (decide (a0.Kind≤7)) false) != (x2.Kind == 10)) true (cond (a0.Kind == 9) (x2.Kind != 1) false)) true (cond (cond (decide (2≤a0.Kind)) (decide (a0.Kind≤7)) false) (!y15) false))) (some (cond (cond ((cond (decide (2≤a0.Kind)) (decide (a0.Kind≤7)) false) != (x2.Kind == 10)) true (cond (a0.Kind == 9) (x2.Kind != 1) false)) true false))) (some (cond (cond ((cond (decide (2≤a0.Kind)) (decide (a0.Kind≤7)) false) != (x2.Kind == 10)) true (cond (a0.Kind == 9) (x2.Kind != 1) false)) true false)))) (cond (decide (2≤a0.Kind)) (cond (decide (a0.Kind≤7)) ((Xc x2.Words 0).bind fun x16=>(Kv (IntKind.i64.wrap (a0.Kind - 2)) x16).bind fun y17=>some (cond (cond ((cond (decide (2≤a0.Kind)) (decide (a0.Kind≤7)) false) != (x2.Kind == 10)) true (cond (a0.Kind == 9) (x2.Kind != 1) false)) true (cond (cond (decide (2≤a0.Kind)) (decide (a0.Kind≤7)) false) (!y17) false))) (some (cond (cond ((cond (decide (2≤a0.Kind)) (decide (a0.Kind≤7)) false) != (x2.Kind == 10)) true (cond (a0.Kind == 9) (x2.Kind != 1) false)) true false))) (some (cond (cond ((cond (decide (2≤a0.Kind)) (decide (a0.Kind≤7)) false) != (x2.Kind == 10)) true (cond (a0.Kind == 9) (x2.Kind != 1) false)) true false))))).bind fun (z9:Bool)=>cond z9 (some (.inr (.inl ()))) (some (.inl (IntKind.i64.wrap (s0_+1)))))) (some (.inr (.inr ())))
noncomputable def Vn (Jx:(S_api_Tree→Int→Option Bool)) (a0:S_api_Tree) (a1:Int):Option Bool :=
 cond (a0.Kind == 0) (some (cond ((a0.Words.length:Int) == 0) ((a0.Kids.length:Int) == 0) false)) (cond (a0.Kind == 10) (some (cond ((a0.Words.length:Int) == 1) ((a0.Kids.length:Int) == 0) false)) (cond (cond (cond (cond (cond (cond (decide (a0.Kind < 0)) true (decide (10 < a0.Kind))) true (a1 == 0)) true (decide (65536≤(a0.Words.length:Int)))) true (cond (a0.Kind == 1) (decide (65536≤(a0.Kids.length:Int))) false)) true (decide (1048576≤(a0.Kids.length:Int)))) (some false) (cond (cond (decide (1 < a0.Kind)) (decide (0 < (a0.Words.length:Int))) false) (some false) ((Zw (Jc Jx a0 a1) 0).bind fun (z28:(Unit ⊕ Unit))=>match z28 with | .inl z28=>some false | .inr z28=>some true))))
noncomputable def Qd:Nat→(S_api_Tree→Int→Option Bool)
 | 0=>(fun _ _=>none)
 | k+1=>Vn ((Qd k))
noncomputable def Jt (a0:S_api_Tree) (a1:Int):Option Bool:=lim fun k=>(Qd k) a0 a1
noncomputable def Uf (a0:S_api_Tree):Option Bool :=
 ((U1 a0).bind fun y6=>cond y6 ((Jt a0 64).bind fun y7=>some (cond (cond y6 y7 false) (a0.Kind != 10) false)) (some false)).bind fun (z3:Bool)=>some z3
noncomputable def K8 (a0:(List Int)) (s0_:Int):Option (Int ⊕ Int) :=
 (cond (decide (0 < s0_)) ((Xc a0 (IntKind.i64.wrap (s0_ - 1))).bind fun x4=>some (cond (decide (0 < s0_)) (x4 == 0) false)) (some false)).bind fun (z2:Bool)=>cond z2 (some (.inl (IntKind.i64.wrap (s0_ - 1)))) (some (.inr s0_))
noncomputable def Ju (a0:(List Int)):Option (List Int) :=
 (Zw (K8 a0) (a0.length:Int)).bind fun (z7:Int)=>(Zbq a0 0 z7).bind fun l9=>some l9
noncomputable def Xe (a0:(List Int)) (a1:(List Int)) (s0_:Int):Option (Int ⊕ (Unit ⊕ Unit)) :=
 cond (decide (s0_ < (a0.length:Int))) ((Xc a0 s0_).bind fun x3=>(Xc a1 s0_).bind fun x4=>cond (x3 != x4) (some (.inr (.inl ()))) (some (.inl (IntKind.i64.wrap (s0_+1))))) (some (.inr (.inr ())))
noncomputable def Y9 (a0:(List Int)) (a1:(List Int)):Option Bool :=
 cond ((a0.length:Int) != (a1.length:Int)) (some false) ((Zw (Xe a0 a1) 0).bind fun (z7:(Unit ⊕ Unit))=>match z7 with | .inl z7=>some false | .inr z7=>some true)
noncomputable def Vx (a0:(List S_api_Tree)) (s0_:Int):Option (Int ⊕ Int) :=
 (cond (decide (0 < s0_)) ((Xc a0 (IntKind.i64.wrap (s0_ - 1))).bind fun x6=>some (cond (decide (0 < s0_)) (x6.Kind == 0) false)) (some false)).bind fun (z3:Bool)=>cond z3 (some (.inl (IntKind.i64.wrap (s0_ - 1)))) (some (.inr s0_))
noncomputable def K3 (a0:(List S_api_Tree)):Option (List S_api_Tree) :=
 (Zw (Vx a0) (a0.length:Int)).bind fun (z10:Int)=>(Zbq a0 0 z10).bind fun l12=>some l12
noncomputable def Zbt (J0:(S_api_Tree→S_api_Tree→Option Bool)) (Zv:((List S_api_Tree)→(List S_api_Tree)→Option Bool)) (a0:S_api_Tree) (a1:S_api_Tree):Option Bool :=
 cond (a0.Kind != a1.Kind) (some false) (cond (a0.Kind == 0) (some true) (cond (a0.Kind == 1) (((Ju a0.Words).bind fun y14=>(Ju a1.Words).bind fun y15=>(Y9 y14 y15).bind fun y16=>cond y16 ((K3 a0.Kids).bind fun y17=>(K3 a1.Kids).bind fun y18=>(Zv y17 y18).bind fun y19=>some (cond y16 y19 false)) (some false)).bind fun (z7:Bool)=>some z7) (((Y9 a0.Words a1.Words).bind fun y26=>cond y26 ((Zv a0.Kids a1.Kids).bind fun y27=>some (cond y26 y27 false)) (some false)).bind fun (z23:Bool)=>some z23)))
noncomputable def Z7 (J0:(S_api_Tree→S_api_Tree→Option Bool)) (a0:(List S_api_Tree)) (a1:(List S_api_Tree)) (s0_:Int):Option (Int ⊕ (Unit ⊕ Unit)) :=
 cond (decide (s0_ < (a0.length:Int))) ((Xc a0 s0_).bind fun x2=>(Xc a1 s0_).bind fun x4=>(J0 x2 x4).bind fun y6=>cond (!y6) (some (.inr (.inl ()))) (some (.inl (IntKind.i64.wrap (s0_+1))))) (some (.inr (.inr ())))
noncomputable def Z8 (J0:(S_api_Tree→S_api_Tree→Option Bool)) (Zv:((List S_api_Tree)→(List S_api_Tree)→Option Bool)) (a0:(List S_api_Tree)) (a1:(List S_api_Tree)):Option Bool :=
 cond ((a0.length:Int) != (a1.length:Int)) (some false) ((Zw (Z7 J0 a0 a1) 0).bind fun (z9:(Unit ⊕ Unit))=>match z9 with | .inl z9=>some false | .inr z9=>some true)
noncomputable def Y7:Nat→((S_api_Tree→S_api_Tree→Option Bool)×((List S_api_Tree)→(List S_api_Tree)→Option Bool))
 | 0=>((fun _ _=>none),(fun _ _=>none))
 | k+1=>(Zbt ((Y7 k).1) ((Y7 k).2),Z8 ((Y7 k).1) ((Y7 k).2))
noncomputable def Zhl (a0:S_api_Tree) (a1:S_api_Tree):Option Bool:=lim fun k=>(Y7 k).1 a0 a1
noncomputable def Yy (a0:(List S_api_Tree)) (a1:(List S_api_Tree)):Option Bool:=lim fun k=>(Y7 k).2 a0 a1
noncomputable def K2 (a0:List Int):Option (List Int) :=
 Zbs 8 ([]:List Int) a0
noncomputable def Q5 (a0:List S_api_Tree):Option (List S_api_Tree) :=
 Zbs 56 ([]:List S_api_Tree) a0
noncomputable def Zc7 (a0:S_api_Tree) (a1:Int):Option Int :=
 cond (cond (decide (a1 < 0)) true (decide ((a0.Words.length:Int)≤a1))) (some 0) ((Xc a0.Words a1).bind fun x2=>some x2)
noncomputable def V3 (a0:Int):Option Bool :=
 some (cond (decide (a0 < 0)) true (decide (65534 < a0)))
noncomputable def Zaj (a0:Int) (s0_:(Int×Int)):Option ((Int×Int) ⊕ Int) :=
 cond (decide (s0_.2 < 8)) (((Zk0 (0≤s0_.2)).bind fun u3=>cond ((IntKind.u8.wrap (Zfl .u8 (Int.fdiv a0 (2 ^ min (Int.toNat s0_.2) 8)) 1)) == 1) ((Zk0 (0≤(IntKind.i64.wrap (8 * s0_.2)))).bind fun u4=>some (IntKind.u64.wrap (Zqi .u64 s0_.1 (IntKind.u64.wrap (255 * 2 ^ min (Int.toNat (IntKind.i64.wrap (8 * s0_.2))) 64))))) (some s0_.1)).bind fun (z1:Int)=>some (.inl (z1,(IntKind.i64.wrap (s0_.2+1))))) (some (.inr s0_.1))
noncomputable def Zai (a0:Int):Option Int :=
 (Zw (Zaj a0) (0,0)).bind fun (z7:Int)=>some z7
noncomputable def Zcl (a0:Int) (a1:Int) (a2:Int):Option Int :=
 (Zai a2).bind fun y2=>some (IntKind.u64.wrap (Zqi .u64 (IntKind.u64.wrap (Zs0 .u64 a0 y2)) (IntKind.u64.wrap (Zfl .u64 a1 y2))))
noncomputable def Vu (a1:Int) (a2:Int) (s0_:(List Int)):Option ((List Int) ⊕ (List Int)) :=
 cond (cond (decide ((s0_.length:Int)≤a1)) (a2 != 0) false) ((Zbs 8 s0_ ([0]:List Int)).bind fun l1=>some (.inl l1)) (some (.inr s0_))
noncomputable def Gn (a0:S_api_Tree) (a1:Int) (a2:Int):Option S_api_Tree :=
 (Zw (Vu a1 a2) a0.Words).bind fun (z3:(List Int))=>cond (decide (a1 < (z3.length:Int))) ((Xc z3 a1).bind fun x4=>some (⟨a0.Kind,(Zbj z3 a1 a2),a0.Kids⟩:S_api_Tree)) (some (⟨a0.Kind,z3,a0.Kids⟩:S_api_Tree))
noncomputable def Zec (a0:S_api_Tree) (a1:Int):Option S_api_Tree :=
 cond (cond (decide (a1 < 0)) true (decide ((a0.Kids.length:Int)≤a1))) (some (⟨0,[],[]⟩:S_api_Tree)) ((Xc a0.Kids a1).bind fun x2=>some x2)
noncomputable def Ue (a1:Int) (a2:S_api_Tree) (s0_:(List S_api_Tree)):Option ((List S_api_Tree) ⊕ (List S_api_Tree)) :=
 cond (cond (decide ((s0_.length:Int)≤a1)) (a2.Kind != 0) false) ((Zbs 56 s0_ ([(⟨0,[],[]⟩:S_api_Tree)]:List S_api_Tree)).bind fun l1=>(Xc l1 (s0_.length:Int)).bind fun x2=>some (.inl (s0_++[(⟨0,[],[]⟩:S_api_Tree)]))) (some (.inr s0_))
noncomputable def Zah (a0:S_api_Tree) (a1:Int) (a2:S_api_Tree):Option S_api_Tree :=
 (Zw (Ue a1 a2) a0.Kids).bind fun (z5:(List S_api_Tree))=>cond (decide (a1 < (z5.length:Int))) ((Xc z5 a1).bind fun x6=>some (⟨a0.Kind,a0.Words,(Zbj z5 a1 a2)⟩:S_api_Tree)) (some (⟨a0.Kind,a0.Words,z5⟩:S_api_Tree))
noncomputable def Zc6 (a0:Int):Option Bool :=
 some (cond (decide (2≤a0)) (decide (a0≤9)) false)
structure Zn where
 At:Int
 Mask:Int
 Old:Int
 New:Int
mutual
structure S_api_Edit where
 Kind:Int
 Old:S_api_Tree
 New:S_api_Tree
 Words:(List Zn)
 Kids:(List S_api_KidEdit)
 List_:Int
 Ops:(List S_api_Op)
structure S_api_KidEdit where
 At:Int
 E:S_api_Edit
structure S_api_Op where
 Kind:Int
 N:Int
 L:(List S_api_Tree)
 E:S_api_Edit
end
structure Zg where
 left:(List S_api_Tree)
 out:(List S_api_Tree)
noncomputable def V7 (Ys:(S_api_Edit→S_api_Tree→Option (S_api_Tree×Bool))) (Yb:(S_api_Edit→S_api_Tree→Option (S_api_Tree×Bool))) (Y0:(S_api_Edit→S_api_Tree→Option (S_api_Tree×Bool))) (Z3:(Zg→S_api_Op→Option (Bool×Zg))) (Z0:(Zg→S_api_Edit→Option (Bool×Zg))) (a0:S_api_Edit) (a1:S_api_Tree):Option (S_api_Tree×Bool) :=
 cond (a0.Kind == 0) (some (a1,true)) (cond (a0.Kind == 1) ((Zhl a1 a0.Old).bind fun y2=>some (a0.New,y2)) (cond (a0.Kind == 2) ((Yb a0 a1).bind fun y4=>some (y4.1,y4.2)) (cond (a0.Kind == 3) ((Y0 a0 a1).bind fun y6=>some (y6.1,y6.2)) (some ((⟨0,[],[]⟩:S_api_Tree),false)))))
noncomputable def X1 (a0:S_api_Edit) (a1:S_api_Tree) (s0_:(Int×Int×(List Int)×(List S_api_Tree))):Option ((Int×Int×(List Int)×(List S_api_Tree)) ⊕ (Unit ⊕ (Int×(List Int)×(List S_api_Tree)))) :=
 cond (decide (s0_.1 < (a0.Words.length:Int))) ((Xc a0.Words s0_.1).bind fun x110=>(Zc7 a1 x110.At).bind fun y112=>((V3 x110.At).bind fun y118=>cond y118 (some true) ((Zai x110.Mask).bind fun y119=>some (cond y118 true ((IntKind.u64.wrap (Zfl .u64 (IntKind.u64.wrap (Zl1 .u64 y112 x110.Old)) y119)) != 0)))).bind fun (z115:Bool)=>cond z115 (some (.inr (.inl ()))) ((Zcl y112 x110.New x110.Mask).bind fun y121=>(Gn (⟨s0_.2.1,s0_.2.2.1,s0_.2.2.2⟩:S_api_Tree) x110.At y121).bind fun y122=>some (.inl ((IntKind.i64.wrap (s0_.1+1)),y122.Kind,y122.Words,y122.Kids)))) (some (.inr (.inr (s0_.2.1,s0_.2.2.1,s0_.2.2.2))))
noncomputable def Xn (Ys:(S_api_Edit→S_api_Tree→Option (S_api_Tree×Bool))) (a0:S_api_Edit) (a1:S_api_Tree) (s1_:(Int×Int×(List Int)×(List S_api_Tree))):Option ((Int×Int×(List Int)×(List S_api_Tree)) ⊕ (Unit ⊕ (Int×(List Int)×(List S_api_Tree)))) :=
 cond (decide (s1_.1 < (a0.Kids.length:Int))) ((Xc a0.Kids s1_.1).bind fun x127=>(Zec a1 x127.At).bind fun y130=>(Ys x127.E y130).bind fun y131=>(V3 x127.At).bind fun y133=>cond (cond y133 true (!y131.2)) (some (.inr (.inl ()))) ((Zah (⟨s1_.2.1,s1_.2.2.1,s1_.2.2.2⟩:S_api_Tree) x127.At y131.1).bind fun y134=>some (.inl ((IntKind.i64.wrap (s1_.1+1)),y134.Kind,y134.Words,y134.Kids)))) (some (.inr (.inr (s1_.2.1,s1_.2.2.1,s1_.2.2.2))))
noncomputable def Kt (Ys:(S_api_Edit→S_api_Tree→Option (S_api_Tree×Bool))) (Yb:(S_api_Edit→S_api_Tree→Option (S_api_Tree×Bool))) (Y0:(S_api_Edit→S_api_Tree→Option (S_api_Tree×Bool))) (Z3:(Zg→S_api_Op→Option (Bool×Zg))) (Z0:(Zg→S_api_Edit→Option (Bool×Zg))) (a0:S_api_Edit) (a1:S_api_Tree):Option (S_api_Tree×Bool) :=
 cond (a1.Kind != 1) (some ((⟨0,[],[]⟩:S_api_Tree),false)) ((K2 a1.Words).bind fun y25=>(Q5 a1.Kids).bind fun y61=>(Zw (X1 a0 a1) (0,1,y25,y61)).bind fun (z125:(Unit ⊕ (Int×(List Int)×(List S_api_Tree))))=>match z125 with | .inl z125=>some ((⟨0,[],[]⟩:S_api_Tree),false) | .inr z125=>(Zw (Xn Ys a0 a1) (0,z125.1,z125.2.1,z125.2.2)).bind fun (z137:(Unit ⊕ (Int×(List Int)×(List S_api_Tree))))=>match z137 with | .inl z137=>some ((⟨0,[],[]⟩:S_api_Tree),false) | .inr z137=>some ((⟨z137.1,z137.2.1,z137.2.2⟩:S_api_Tree),true))
noncomputable def Q9 (Z3:(Zg→S_api_Op→Option (Bool×Zg))) (a0:S_api_Edit) (s0_:(Int×(List S_api_Tree)×(List S_api_Tree))):Option ((Int×(List S_api_Tree)×(List S_api_Tree)) ⊕ (Unit ⊕ ((List S_api_Tree)×(List S_api_Tree)))) :=
 cond (decide (s0_.1 < (a0.Ops.length:Int))) ((Xc a0.Ops s0_.1).bind fun x7=>(Z3 (⟨s0_.2.1,s0_.2.2⟩:Zg) x7).bind fun y9=>cond (!y9.1) (some (.inr (.inl ()))) (some (.inl ((IntKind.i64.wrap (s0_.1+1)),y9.2.left,y9.2.out)))) (some (.inr (.inr (s0_.2.1,s0_.2.2))))
noncomputable def Zau (Ys:(S_api_Edit→S_api_Tree→Option (S_api_Tree×Bool))) (Yb:(S_api_Edit→S_api_Tree→Option (S_api_Tree×Bool))) (Y0:(S_api_Edit→S_api_Tree→Option (S_api_Tree×Bool))) (Z3:(Zg→S_api_Op→Option (Bool×Zg))) (Z0:(Zg→S_api_Edit→Option (Bool×Zg))) (a0:S_api_Edit) (a1:S_api_Tree):Option (S_api_Tree×Bool) :=
 (cond (a1.Kind != a0.List_) (some true) ((Zc6 a1.Kind).bind fun y4=>some (cond (a1.Kind != a0.List_) true (!y4)))).bind fun (z2:Bool)=>cond z2 (some ((⟨0,[],[]⟩:S_api_Tree),false)) ((Zw (Q9 Z3 a0) (0,a1.Kids,([]:List S_api_Tree))).bind fun (z12:(Unit ⊕ ((List S_api_Tree)×(List S_api_Tree))))=>match z12 with | .inl z12=>some ((⟨0,[],[]⟩:S_api_Tree),false) | .inr z12=>some ((⟨a1.Kind,[],z12.2⟩:S_api_Tree),((z12.1.length:Int) == 0)))
noncomputable def K5 (Ys:(S_api_Edit→S_api_Tree→Option (S_api_Tree×Bool))) (Yb:(S_api_Edit→S_api_Tree→Option (S_api_Tree×Bool))) (Y0:(S_api_Edit→S_api_Tree→Option (S_api_Tree×Bool))) (Z3:(Zg→S_api_Op→Option (Bool×Zg))) (Z0:(Zg→S_api_Edit→Option (Bool×Zg))) (a0:Zg) (a1:S_api_Op):Option (Bool×Zg) :=
 cond (a1.Kind == 0) ((cond (decide (a1.N < 0)) (some true) (some (cond (decide (a1.N < 0)) true (decide ((a0.left.length:Int) < a1.N))))).bind fun (z1:Bool)=>cond z1 (some (false,(⟨a0.left,a0.out⟩:Zg))) ((Zbq a0.left 0 a1.N).bind fun l5=>(Zbs 56 a0.out l5).bind fun l6=>(Zbq a0.left a1.N (a0.left.length:Int)).bind fun l8=>some (true,(⟨l8,l6⟩:Zg)))) (cond (a1.Kind == 1) ((cond (decide ((a0.left.length:Int) < (a1.L.length:Int))) (some true) ((Zbq a0.left 0 (a1.L.length:Int)).bind fun l15=>(Yy l15 a1.L).bind fun y16=>some (cond (decide ((a0.left.length:Int) < (a1.L.length:Int))) true (!y16)))).bind fun (z12:Bool)=>cond z12 (some (false,(⟨a0.left,a0.out⟩:Zg))) ((Zbq a0.left (a1.L.length:Int) (a0.left.length:Int)).bind fun l19=>some (true,(⟨l19,a0.out⟩:Zg)))) (cond (a1.Kind == 2) ((Zbs 56 a0.out a1.L).bind fun l22=>some (true,(⟨a0.left,l22⟩:Zg))) (cond (a1.Kind == 3) ((Z0 (⟨a0.left,a0.out⟩:Zg) a1.E).bind fun y24=>some (y24.1,(⟨y24.2.left,y24.2.out⟩:Zg))) (some (false,(⟨a0.left,a0.out⟩:Zg))))))
noncomputable def Q3 (Ys:(S_api_Edit→S_api_Tree→Option (S_api_Tree×Bool))) (Yb:(S_api_Edit→S_api_Tree→Option (S_api_Tree×Bool))) (Y0:(S_api_Edit→S_api_Tree→Option (S_api_Tree×Bool))) (Z3:(Zg→S_api_Op→Option (Bool×Zg))) (Z0:(Zg→S_api_Edit→Option (Bool×Zg))) (a0:Zg) (a1:S_api_Edit):Option (Bool×Zg) :=
 cond ((a0.left.length:Int) == 0) (some (false,(⟨a0.left,a0.out⟩:Zg))) ((Xc a0.left 0).bind fun x3=>(Ys a1 x3).bind fun y4=>(Zbs 56 a0.out ([(⟨0,[],[]⟩:S_api_Tree)]:List S_api_Tree)).bind fun l8=>(Xc l8 (a0.out.length:Int)).bind fun x9=>(Zbq a0.left 1 (a0.left.length:Int)).bind fun l12=>some (y4.2,(⟨l12,(a0.out++[y4.1])⟩:Zg)))
noncomputable def Zp:Nat→((S_api_Edit→S_api_Tree→Option (S_api_Tree×Bool))×(S_api_Edit→S_api_Tree→Option (S_api_Tree×Bool))×(S_api_Edit→S_api_Tree→Option (S_api_Tree×Bool))×(Zg→S_api_Op→Option (Bool×Zg))×(Zg→S_api_Edit→Option (Bool×Zg)))
 | 0=>((fun _ _=>none),(fun _ _=>none),(fun _ _=>none),(fun _ _=>none),(fun _ _=>none))
 | k+1=>(V7 ((Zp k).1) ((Zp k).2.1) ((Zp k).2.2.1) ((Zp k).2.2.2.1) ((Zp k).2.2.2.2),Kt ((Zp k).1) ((Zp k).2.1) ((Zp k).2.2.1) ((Zp k).2.2.2.1) ((Zp k).2.2.2.2),Zau ((Zp k).1) ((Zp k).2.1) ((Zp k).2.2.1) ((Zp k).2.2.2.1) ((Zp k).2.2.2.2),K5 ((Zp k).1) ((Zp k).2.1) ((Zp k).2.2.1) ((Zp k).2.2.2.1) ((Zp k).2.2.2.2),Q3 ((Zp k).1) ((Zp k).2.1) ((Zp k).2.2.1) ((Zp k).2.2.2.1) ((Zp k).2.2.2.2))
noncomputable def Zhk (a0:S_api_Edit) (a1:S_api_Tree):Option (S_api_Tree×Bool):=lim fun k=>(Zp k).1 a0 a1
noncomputable def Ux (Zbo:(S_api_Tree→Option S_api_Tree)) (z1:((List Int)×(List S_api_Tree))) (s0_:(Int×(List S_api_Tree))):Option ((Int×(List S_api_Tree)) ⊕ (List S_api_Tree)) :=
 cond (decide (s0_.1 < (z1.2.length:Int))) ((Xc z1.2 s0_.1).bind fun x9=>(Zbo x9).bind fun y10=>(Xc s0_.2 s0_.1).bind fun x11=>some (.inl ((IntKind.i64.wrap (s0_.1+1)),(Zbj s0_.2 s0_.1 y10)))) (some (.inr s0_.2))
noncomputable def Zcw (Zbo:(S_api_Tree→Option S_api_Tree)) (a0:S_api_Tree):Option S_api_Tree :=
 cond (a0.Kind == 0) (some (⟨0,[],[]⟩:S_api_Tree)) ((cond (a0.Kind == 1) ((Ju a0.Words).bind fun y2=>(K3 a0.Kids).bind fun y3=>some (y2,y3)) (some (a0.Words,a0.Kids))).bind fun (z1:((List Int)×(List S_api_Tree)))=>(cond (decide (0 < (z1.2.length:Int))) ((Ziw 56 (z1.2.length:Int) (⟨(0:Int),[],[]⟩:S_api_Tree)).bind fun l6=>some l6) (some ([]:List S_api_Tree))).bind fun (z5:(List S_api_Tree))=>(Zw (Ux Zbo z1) (0,z5)).bind fun (z14:(List S_api_Tree))=>some (⟨a0.Kind,z1.1,z14⟩:S_api_Tree))
noncomputable def Vi:Nat→(S_api_Tree→Option S_api_Tree)
 | 0=>(fun _=>none)
 | k+1=>Zcw ((Vi k))
noncomputable def Ziv (a0:S_api_Tree):Option S_api_Tree:=lim fun k=>(Vi k) a0
noncomputable def Gi (a0:S_api_Edit) (a1:S_api_Tree):Option (S_api_Tree×Bool) :=
 (Zhk a0 a1).bind fun y2=>cond (!y2.2) (some ((⟨0,[],[]⟩:S_api_Tree),false)) ((Ziv y2.1).bind fun y4=>some (y4,true))
noncomputable def Jr :Option Bool :=
 (Gi (⟨2,⟨0,[],[]⟩,⟨0,[],[]⟩,([(⟨0,1,5,6⟩:Zn)]:List Zn),[],0,[]⟩:S_api_Edit) (⟨1,([5]:List Int),[]⟩:S_api_Tree)).bind fun y2=>(Gi (⟨2,⟨0,[],[]⟩,⟨0,[],[]⟩,([(⟨0,1,5,6⟩:Zn)]:List Zn),[],0,[]⟩:S_api_Edit) (⟨1,([7]:List Int),[]⟩:S_api_Tree)).bind fun y4=>(cond y2.2 (cond y4.2 (some false) (cond ((y2.1.Words.length:Int) == 1) ((Xc y2.1.Words 0).bind fun x8=>some (cond (cond (cond y2.2 (!y4.2) false) ((y2.1.Words.length:Int) == 1) false) (x8 == 6) false)) (some false))) (some false)).bind fun (z6:Bool)=>some z6
noncomputable def Kb (a0:(List Int)) (s0_:Int):Option (Int ⊕ Int) :=
 (cond (decide (0 < s0_)) ((Xc a0 (IntKind.i64.wrap (s0_ - 1))).bind fun x4=>some (cond (decide (0 < s0_)) (x4 == 0) false)) (some false)).bind fun (z2:Bool)=>cond z2 (some (.inl (IntKind.i64.wrap (s0_ - 1)))) (some (.inr s0_))
noncomputable def Uh (a0:(List Int)):Option (List Int) :=
 (Zw (Kb a0) (a0.length:Int)).bind fun (z7:Int)=>(Zbq a0 0 z7).bind fun l10=>(Zbs 8 ([]:List Int) l10).bind fun l11=>some l11
noncomputable def X2 (Kz:(S_api_Tree→Option S_api_Tree)) (a0:S_api_Tree) (s0_:(Int×Int×(List S_api_Tree))):Option ((Int×Int×(List S_api_Tree)) ⊕ (Int×(List S_api_Tree))) :=
 cond (decide (s0_.2.1 < (a0.Kids.length:Int))) (((Xc a0.Kids s0_.2.1).bind fun x4=>(Kz x4).bind fun y5=>(Zbs 56 s0_.2.2 ([y5]:List S_api_Tree)).bind fun l7=>cond (y5.Kind != 0) (some ((IntKind.i64.wrap (s0_.2.1+1)),l7)) (some (s0_.1,l7))).bind fun (z1:(Int×(List S_api_Tree)))=>some (.inl (z1.1,(IntKind.i64.wrap (s0_.2.1+1)),z1.2))) (some (.inr (s0_.1,s0_.2.2)))
noncomputable def V8 (Kz:(S_api_Tree→Option S_api_Tree)) (a0:S_api_Tree):Option S_api_Tree :=
 cond (a0.Kind == 0) (some (⟨0,[],[]⟩:S_api_Tree)) ((Zw (X2 Kz a0) (0,0,([]:List S_api_Tree))).bind fun (z10:(Int×(List S_api_Tree)))=>cond (a0.Kind == 1) ((Uh a0.Words).bind fun y14=>(Zbq z10.2 0 z10.1).bind fun l15=>some (⟨1,y14,l15⟩:S_api_Tree)) ((Zbs 8 ([]:List Int) a0.Words).bind fun l17=>some (⟨a0.Kind,l17,z10.2⟩:S_api_Tree)))
noncomputable def Xd:Nat→(S_api_Tree→Option S_api_Tree)
 | 0=>(fun _=>none)
 | k+1=>V8 ((Xd k))
noncomputable def Kw (a0:S_api_Tree):Option S_api_Tree:=lim fun k=>(Xd k) a0
noncomputable def Ka (a0:(List Int)) (a1:(List Int)) (s0_:Int):Option (Int ⊕ (Unit ⊕ Unit)) :=
 cond (decide (s0_ < (a0.length:Int))) ((Xc a0 s0_).bind fun x3=>(Xc a1 s0_).bind fun x4=>cond (x3 != x4) (some (.inr (.inl ()))) (some (.inl (IntKind.i64.wrap (s0_+1))))) (some (.inr (.inr ())))
noncomputable def Ug (a0:(List Int)) (a1:(List Int)):Option Bool :=
 cond ((a0.length:Int) != (a1.length:Int)) (some false) ((Zw (Ka a0 a1) 0).bind fun (z7:(Unit ⊕ Unit))=>match z7 with | .inl z7=>some false | .inr z7=>some true)
noncomputable def J5 (K0:(S_api_Tree→S_api_Tree→Option Bool)) (a0:S_api_Tree) (a1:S_api_Tree) (s0_:Int):Option (Int ⊕ (Unit ⊕ Unit)) :=
 cond (decide (s0_ < (a0.Kids.length:Int))) ((Xc a0.Kids s0_).bind fun x9=>(Xc a1.Kids s0_).bind fun x10=>(K0 x9 x10).bind fun y11=>cond (!y11) (some (.inr (.inl ()))) (some (.inl (IntKind.i64.wrap (s0_+1))))) (some (.inr (.inr ())))
noncomputable def V9 (K0:(S_api_Tree→S_api_Tree→Option Bool)) (a0:S_api_Tree) (a1:S_api_Tree):Option Bool :=
 (cond (a0.Kind != a1.Kind) (some true) ((Ug a0.Words a1.Words).bind fun y4=>some (cond (cond (a0.Kind != a1.Kind) true (!y4)) true ((a0.Kids.length:Int) != (a1.Kids.length:Int))))).bind fun (z2:Bool)=>cond z2 (some false) ((Zw (J5 K0 a0 a1) 0).bind fun (z14:(Unit ⊕ Unit))=>match z14 with | .inl z14=>some false | .inr z14=>some true)
noncomputable def Qt:Nat→(S_api_Tree→S_api_Tree→Option Bool)
 | 0=>(fun _ _=>none)
 | k+1=>V9 ((Qt k))
noncomputable def G0 (a0:S_api_Tree) (a1:S_api_Tree):Option Bool:=lim fun k=>(Qt k) a0 a1
noncomputable def Qu (a0:S_api_Tree) (a1:S_api_Tree):Option Bool :=
 (Kw a0).bind fun y4=>(Kw a1).bind fun y5=>(G0 y4 y5).bind fun y6=>some y6
noncomputable def X3 (X0:(S_api_Edit→Int→Int→Option Int)) (a0:S_api_Edit) (a1:Int) (s0_:(Int×Int)):Option ((Int×Int) ⊕ Int) :=
 cond (cond (decide (s0_.2 < (a0.Kids.length:Int))) (decide (0≤s0_.1)) false) ((Xc a0.Kids s0_.2).bind fun x6=>(X0 x6.E (IntKind.i64.wrap (a1 - 1)) s0_.1).bind fun y8=>some (.inl (y8,(IntKind.i64.wrap (s0_.2+1))))) (some (.inr s0_.1))
noncomputable def J6 (a0:S_api_Edit) (s1_:(Int×Int)) (s2_:(Int×Int)):Option ((Int×Int) ⊕ Int) :=
 (Xc a0.Ops s1_.2).bind fun x14=>cond (cond (decide (s2_.2 < (x14.L.length:Int))) (decide (0≤s2_.1)) false) ((Xc a0.Ops s1_.2).bind fun x16=>(Xc x16.L s2_.2).bind fun x18=>(Xq x18 80 s2_.1).bind fun y19=>some (.inl (y19,(IntKind.i64.wrap (s2_.2+1))))) (some (.inr s2_.1))
noncomputable def X4 (X0:(S_api_Edit→Int→Int→Option Int)) (a0:S_api_Edit) (a1:Int) (s1_:(Int×Int)):Option ((Int×Int) ⊕ Int) :=
 cond (cond (decide (s1_.2 < (a0.Ops.length:Int))) (decide (0≤s1_.1)) false) (((Zw (J6 a0 s1_) (s1_.1,0)).bind fun (z21:Int)=>cond (decide (0≤z21)) ((Xc a0.Ops s1_.2).bind fun x22=>(X0 x22.E (IntKind.i64.wrap (a1 - 1)) z21).bind fun y24=>some y24) (some z21)).bind fun (z11:Int)=>some (.inl (z11,(IntKind.i64.wrap (s1_.2+1))))) (some (.inr s1_.1))
noncomputable def Qh (X0:(S_api_Edit→Int→Int→Option Int)) (a0:S_api_Edit) (a1:Int) (a2:Int):Option Int :=
 cond (cond (a1 == 0) true (decide ((IntKind.i64.wrap ((IntKind.i64.wrap ((IntKind.i64.wrap (a2 - 1)) - (a0.Words.length:Int))) - (a0.Ops.length:Int))) < 0))) (some (-1)) ((Xq a0.Old 80 (IntKind.i64.wrap ((IntKind.i64.wrap ((IntKind.i64.wrap (a2 - 1)) - (a0.Words.length:Int))) - (a0.Ops.length:Int)))).bind fun y2=>(cond (decide (0≤y2)) ((Xq a0.New 80 y2).bind fun y4=>some y4) (some y2)).bind fun (z3:Int)=>(Zw (X3 X0 a0 a1) (z3,0)).bind fun (z10:Int)=>(Zw (X4 X0 a0 a1) (z10,0)).bind fun (z27:Int)=>some z27)
noncomputable def Yh:Nat→(S_api_Edit→Int→Int→Option Int)
 | 0=>(fun _ _ _=>none)
 | k+1=>Qh ((Yh k))
noncomputable def Zb0 (a0:S_api_Edit) (a1:Int) (a2:Int):Option Int:=lim fun k=>(Yh k) a0 a1 a2
noncomputable def U2 (a0:S_api_Edit):Option Bool :=
 (Zb0 a0 80 3000).bind fun y2=>some (decide (0≤y2))
noncomputable def Qi (a0:S_api_Tree):Option Bool :=
 some (cond (a0.Kind == 0) ((IntKind.i64.wrap ((a0.Words.length:Int)+(a0.Kids.length:Int))) == 0) false)
noncomputable def Jf (s0_:(Int×Int×(Arr Int 8))):Option ((Int×Int×(Arr Int 8)) ⊕ (Arr Int 8)) :=
 cond (decide (s0_.2.1 < 8)) ((Xc s0_.2.2.1 s0_.2.1).bind fun x15=>some (.inl ((IntKind.u64.wrap (Int.tdiv s0_.1 256)),(IntKind.i64.wrap (s0_.2.1+1)),(Arr.put s0_.2.2 s0_.2.1 (IntKind.u8.wrap (Int.tmod s0_.1 256)))))) (some (.inr s0_.2.2))
noncomputable def Js (a0:Int):Option (Arr Int 8) :=
 ((some (⟨[0,0,0,0,0,0,0,0],rfl⟩:(Arr Int 8)))).bind fun y3=>((some (⟨[0,0,0,0,0,0,0,0],rfl⟩:(Arr Int 8)))).bind fun y9=>(Zw (Jf) (a0,0,y9)).bind fun (z18:(Arr Int 8))=>some z18
noncomputable def Qo (a1:Int) (s0_:(Int×Int)):Option ((Int×Int) ⊕ Int) :=
 cond (decide (s0_.2 < a1)) (some (.inl ((IntKind.u8.wrap (Int.tdiv s0_.1 2)),(IntKind.i64.wrap (s0_.2+1))))) (some (.inr s0_.1))
noncomputable def Vv (a0:Int) (a1:Int):Option Bool :=
 (Zw (Qo a1) (a0,0)).bind fun (z2:Int)=>some ((Int.tmod z2 2) == 1)
noncomputable def Vw (a0:(List Int)) (a1:Int) (s0_:(Int×Int)):Option ((Int×Int) ⊕ Int) :=
 cond (decide (0≤s0_.2)) ((Xc a0 (IntKind.i64.wrap (a1+s0_.2))).bind fun x1=>some (.inl ((IntKind.u64.wrap ((IntKind.u64.wrap (s0_.1 * 256))+(IntKind.u64.wrap x1))),(IntKind.i64.wrap (s0_.2 - 1))))) (some (.inr s0_.1))
noncomputable def Za8 (a0:(List Int)) (a1:Int):Option Int :=
 (Zw (Vw a0 a1) (0,7)).bind fun (z3:Int)=>some z3
noncomputable def K7 (a2:Int) (y9:(Arr Int 8)) (s0_:(Int×(Arr Int 8))):Option ((Int×(Arr Int 8)) ⊕ (Arr Int 8)) :=
 cond (decide (s0_.1 < 8)) (((Vv a2 s0_.1).bind fun y17=>cond y17 ((Xc y9.1 s0_.1).bind fun x18=>(Xc s0_.2.1 s0_.1).bind fun x19=>some (Arr.put s0_.2 s0_.1 x18)) (some s0_.2)).bind fun (z15:(Arr Int 8))=>some (.inl ((IntKind.i64.wrap (s0_.1+1)),z15))) (some (.inr s0_.2))
noncomputable def Qa (a0:Int) (a1:Int) (a2:Int):Option Int :=
 (Js a0).bind fun y8=>(Js a1).bind fun y9=>((some (⟨[0,0,0,0,0,0,0,0],rfl⟩:(Arr Int 8)))).bind fun y10=>(Zw (K7 a2 y9) (0,y8)).bind fun (z23:(Arr Int 8))=>(Za8 z23.1 0).bind fun y29=>some y29
noncomputable def Q8 (a0:Int) (a1:Int):Option Bool :=
 (Qa a0 0 a1).bind fun y2=>some (y2 == 0)
noncomputable def Kx (a0:S_api_Edit):Option Bool :=
 (cond (a0.Kind == 0) ((Qi a0.Old).bind fun y6=>cond y6 ((Qi a0.New).bind fun y7=>some (cond (cond (cond (cond (a0.Kind == 0) y6 false) y7 false) ((IntKind.i64.wrap ((IntKind.i64.wrap ((a0.Words.length:Int)+(a0.Kids.length:Int)))+(a0.Ops.length:Int))) == 0) false) (a0.List_ == 0) false)) (some false)) (some false)).bind fun (z3:Bool)=>some z3
noncomputable def Qw (a0:S_api_Edit) (s0_:(Int×Int×Int)):Option ((Int×Int×Int) ⊕ (Int×Int)) :=
 cond (decide (s0_.2.2 < (a0.Ops.length:Int))) (((Xc a0.Ops s0_.2.2).bind fun x3=>(cond (x3.Kind == 3) (some 1) (some (IntKind.i64.wrap (x3.N+(x3.L.length:Int))))).bind fun (z4:Int)=>(cond (x3.Kind != 2) (some (IntKind.i64.wrap (s0_.1+z4))) (some s0_.1)).bind fun (z6:Int)=>(cond (x3.Kind != 1) (some (IntKind.i64.wrap (s0_.2.1+z4))) (some s0_.2.1)).bind fun (z8:Int)=>(cond (decide (1048576 < z6)) (some 1048576) (some z6)).bind fun (z10:Int)=>cond (decide (1048576 < z8)) (some (z10,1048576)) (some (z10,z8))).bind fun (z1:(Int×Int))=>some (.inl (z1.1,z1.2,(IntKind.i64.wrap (s0_.2.2+1))))) (some (.inr (s0_.1,s0_.2.1)))
noncomputable def Qv (a0:S_api_Edit):Option (Int×Int) :=
 (Zw (Qw a0) (0,0,0)).bind fun (z14:(Int×Int))=>some (z14.1,z14.2)
noncomputable def Qm (a0:S_api_Edit) (s0_:(Int×Int)):Option ((Int×Int) ⊕ (Unit ⊕ Unit)) :=
 cond (decide (s0_.2 < (a0.Words.length:Int))) ((Xc a0.Words s0_.2).bind fun x19=>(cond (decide (x19.At≤s0_.1)) (some true) (cond (decide (65534 < x19.At)) (some true) (cond (x19.Mask == 0) (some true) ((Q8 x19.Old x19.Mask).bind fun y25=>cond y25 ((Q8 x19.New x19.Mask).bind fun y26=>some (cond (cond (cond (cond (decide (x19.At≤s0_.1)) true (decide (65534 < x19.At))) true (x19.Mask == 0)) true (!y25)) true (!y26))) (some true))))).bind fun (z22:Bool)=>cond z22 (some (.inr (.inl ()))) (some (.inl (x19.At,(IntKind.i64.wrap (s0_.2+1)))))) (some (.inr (.inr ())))
noncomputable def Qn (Y5:(S_api_Edit→Int→Option Bool)) (a0:S_api_Edit) (a1:Int) (s1_:(Int×Int)):Option ((Int×Int) ⊕ (Unit ⊕ Unit)) :=
 cond (decide (s1_.2 < (a0.Kids.length:Int))) ((Xc a0.Kids s1_.2).bind fun x35=>(cond (decide (x35.At≤s1_.1)) (some true) (cond (decide (65534 < x35.At)) (some true) (cond (x35.E.Kind == 0) (some true) ((Y5 x35.E (IntKind.i64.wrap (a1 - 1))).bind fun y39=>some (cond (cond (cond (decide (x35.At≤s1_.1)) true (decide (65534 < x35.At))) true (x35.E.Kind == 0)) true (!y39)))))).bind fun (z37:Bool)=>cond z37 (some (.inr (.inl ()))) (some (.inl (x35.At,(IntKind.i64.wrap (s1_.2+1)))))) (some (.inr (.inr ())))
noncomputable def Xw (X8:(Int→S_api_Op→Int→Option Bool)) (a0:S_api_Edit) (a1:Int) (s2_:Int):Option (Int ⊕ (Unit ⊕ Unit)) :=
 cond (decide (s2_ < (a0.Ops.length:Int))) ((Xc a0.Ops s2_).bind fun x48=>(X8 a0.List_ x48 (IntKind.i64.wrap (a1 - 1))).bind fun y49=>cond (!y49) (some (.inr (.inl ()))) (some (.inl (IntKind.i64.wrap (s2_+1))))) (some (.inr (.inr ())))
noncomputable def Vp (Y5:(S_api_Edit→Int→Option Bool)) (X8:(Int→S_api_Op→Int→Option Bool)) (a0:S_api_Edit) (a1:Int):Option Bool :=
 cond (cond (cond (a1 == 0) true (decide (a0.Kind < 0))) true (decide (3 < a0.Kind))) (some false) ((cond (a0.Kind != 1) ((Qi a0.Old).bind fun y6=>cond y6 ((Qi a0.New).bind fun y7=>some (cond (cond (cond (a0.Kind != 1) (!(cond y6 y7 false)) false) true (cond (a0.Kind != 2) (decide (0 < (IntKind.i64.wrap ((a0.Words.length:Int)+(a0.Kids.length:Int))))) false)) true (cond (a0.Kind != 3) (cond (a0.List_ != 0) true (decide (0 < (a0.Ops.length:Int)))) false))) (some true)) (some (cond (cond (a0.Kind != 2) (decide (0 < (IntKind.i64.wrap ((a0.Words.length:Int)+(a0.Kids.length:Int))))) false) true (cond (a0.Kind != 3) (cond (a0.List_ != 0) true (decide (0 < (a0.Ops.length:Int)))) false)))).bind fun (z3:Bool)=>cond z3 (some false) (cond (a0.Kind == 1) (((Jt a0.Old 64).bind fun y15=>cond y15 ((Jt a0.New 64).bind fun y16=>some (cond (cond (cond y15 y16 false) (a0.Old.Kind != 10) false) (a0.New.Kind != 10) false)) (some false)).bind fun (z12:Bool)=>some z12) ((Zw (Qm a0) ((-1),0)).bind fun (z33:(Unit ⊕ Unit))=>match z33 with | .inl z33=>some false | .inr z33=>(Zw (Qn Y5 a0 a1) ((-1),0)).bind fun (z45:(Unit ⊕ Unit))=>match z45 with | .inl z45=>some false | .inr z45=>cond (cond (a0.Kind == 3) (cond (decide (a0.List_ < 2)) true (decide (9 < a0.List_))) false) (some false) ((Zw (Xw X8 a0 a1) 0).bind fun (z52:(Unit ⊕ Unit))=>match z52 with | .inl z52=>some false | .inr z52=>(Qv a0).bind fun y54=>some (cond (decide (y54.1 < 1048576)) (decide (y54.2 < 1048576)) false)))))
noncomputable def Vq (a0:Int) (a1:S_api_Op) (s0_:Int):Option (Int ⊕ (Unit ⊕ Unit)) :=
 cond (decide (s0_ < (a1.L.length:Int))) ((Zbq a1.L s0_ (IntKind.i64.wrap (s0_+1))).bind fun l10=>(Jt (⟨a0,[],l10⟩:S_api_Tree) 64).bind fun y11=>cond (!y11) (some (.inr (.inl ()))) (some (.inl (IntKind.i64.wrap (s0_+1))))) (some (.inr (.inr ())))
noncomputable def Gk (Y5:(S_api_Edit→Int→Option Bool)) (X8:(Int→S_api_Op→Int→Option Bool)) (a0:Int) (a1:S_api_Op) (a2:Int):Option Bool :=
 cond (a1.Kind == 0) ((cond (decide (1≤a1.N)) (cond (decide (a1.N≤1048576)) (cond ((a1.L.length:Int) == 0) ((Kx a1.E).bind fun y4=>some (cond (cond (cond (decide (1≤a1.N)) (decide (a1.N≤1048576)) false) ((a1.L.length:Int) == 0) false) y4 false)) (some false)) (some false)) (some false)).bind fun (z2:Bool)=>some z2) (cond (cond (cond (a1.N != 0) true (decide (a1.Kind < 0))) true (decide (3 < a1.Kind))) (some false) (cond (decide (a1.Kind < 3)) ((Zw (Vq a0 a1) 0).bind fun (z14:(Unit ⊕ Unit))=>match z14 with | .inl z14=>some false | .inr z14=>(cond (decide (0 < (a1.L.length:Int))) ((Kx a1.E).bind fun y18=>some (cond (decide (0 < (a1.L.length:Int))) y18 false)) (some false)).bind fun (z16:Bool)=>some z16) ((cond (decide (0 < (a1.L.length:Int))) (some true) (cond (a1.E.Kind == 0) (some true) (cond (decide (a0≤7)) (some true) ((Y5 a1.E a2).bind fun y23=>some (cond (cond (cond (decide (0 < (a1.L.length:Int))) true (a1.E.Kind == 0)) true (decide (a0≤7))) true (!y23)))))).bind fun (z21:Bool)=>cond z21 (some false) (some (cond (cond (a0 == 8) true (a1.E.Kind == 2)) true (cond (cond (a1.E.Kind == 1) (a1.E.Old.Kind == 1) false) (a1.E.New.Kind == 1) false))))))
noncomputable def Yd:Nat→((S_api_Edit→Int→Option Bool)×(Int→S_api_Op→Int→Option Bool))
 | 0=>((fun _ _=>none),(fun _ _ _=>none))
 | k+1=>(Vp ((Yd k).1) ((Yd k).2),Gk ((Yd k).1) ((Yd k).2))
noncomputable def Zbe (a0:S_api_Edit) (a1:Int):Option Bool:=lim fun k=>(Yd k).1 a0 a1
noncomputable def Jd (Xs:(S_api_Edit→Option Bool)) (a0:S_api_Edit) (s0_:Int):Option (Int ⊕ (Unit ⊕ Unit)) :=
 cond (decide (s0_ < (a0.Kids.length:Int))) ((Xc a0.Kids s0_).bind fun x6=>(Xs x6.E).bind fun y8=>cond (!y8) (some (.inr (.inl ()))) (some (.inl (IntKind.i64.wrap (s0_+1))))) (some (.inr (.inr ())))
noncomputable def Je (Xs:(S_api_Edit→Option Bool)) (a0:S_api_Edit) (s1_:Int):Option (Int ⊕ (Unit ⊕ Unit)) :=
 cond (decide (s1_ < (a0.Ops.length:Int))) ((Xc a0.Ops s1_).bind fun x15=>(Xs x15.E).bind fun y17=>cond (!y17) (some (.inr (.inl ()))) (some (.inl (IntKind.i64.wrap (s1_+1))))) (some (.inr (.inr ())))
noncomputable def Vo (Xs:(S_api_Edit→Option Bool)) (a0:S_api_Edit):Option Bool :=
 (Qv a0).bind fun y2=>cond (cond (decide (2000 < y2.1)) true (decide (2000 < y2.2))) (some false) ((Zw (Jd Xs a0) 0).bind fun (z11:(Unit ⊕ Unit))=>match z11 with | .inl z11=>some false | .inr z11=>(Zw (Je Xs a0) 0).bind fun (z20:(Unit ⊕ Unit))=>match z20 with | .inl z20=>some false | .inr z20=>some true)
noncomputable def Qe:Nat→(S_api_Edit→Option Bool)
 | 0=>(fun _=>none)
 | k+1=>Vo ((Qe k))
noncomputable def Zbd (a0:S_api_Edit):Option Bool:=lim fun k=>(Qe k) a0
noncomputable def Ui (a0:S_api_Edit):Option Bool :=
 ((U2 a0).bind fun y8=>cond y8 ((Zbe a0 64).bind fun y9=>cond y9 ((Zbd a0).bind fun y10=>some (cond (cond y8 y9 false) y10 false)) (some false)) (some false)).bind fun (z4:Bool)=>some z4
noncomputable def Uj (a0:S_api_Tree) (a1:Int):Option Int :=
 cond (decide (a1 < (a0.Words.length:Int))) ((Xc a0.Words a1).bind fun x2=>some x2) (some 0)
noncomputable def U3 (a0:S_api_Tree) (a1:Int):Option S_api_Tree :=
 cond (decide (a1 < (a0.Kids.length:Int))) ((Xc a0.Kids a1).bind fun x2=>some x2) (some (⟨0,[],[]⟩:S_api_Tree))
noncomputable def Ua (Ym:(S_api_Edit→S_api_Tree→Option (S_api_Tree×Bool))) (Yp:(S_api_Edit→S_api_Tree→Option (S_api_Tree×Bool))) (Y4:(S_api_Edit→S_api_Tree→Option (S_api_Tree×Bool))) (a0:S_api_Edit) (a1:S_api_Tree):Option (S_api_Tree×Bool) :=
 (cond (a0.Kind == 0) (some (true,a1.Kind,a1.Words,a1.Kids)) (cond (a0.Kind == 1) ((Qu a0.Old a1).bind fun y2=>some (y2,a0.New.Kind,a0.New.Words,a0.New.Kids)) (cond (a0.Kind == 2) ((Yp a0 a1).bind fun y3=>some (y3.2,y3.1.Kind,y3.1.Words,y3.1.Kids)) (cond (a0.Kind == 3) ((Y4 a0 a1).bind fun y4=>some (y4.2,y4.1.Kind,y4.1.Words,y4.1.Kids)) (some (false,a1.Kind,a1.Words,a1.Kids)))))).bind fun (z1:(Bool×Int×(List Int)×(List S_api_Tree)))=>cond (!z1.1) (some ((⟨0,[],[]⟩:S_api_Tree),false)) ((Kw (⟨z1.2.1,z1.2.2.1,z1.2.2.2⟩:S_api_Tree)).bind fun y10=>some (y10,true))
noncomputable def Yj (a0:S_api_Edit) (a1:S_api_Tree) (z1:Int) (s0_:(Int×Int×(List Int))):Option ((Int×Int×(List Int)) ⊕ (Unit ⊕ (List Int))) :=
 cond (decide (s0_.2.1 < z1)) ((Uj a1 s0_.2.1).bind fun y26=>((cond (decide (s0_.1 < (a0.Words.length:Int))) ((Xc a0.Words s0_.1).bind fun x33=>some (cond (decide (s0_.1 < (a0.Words.length:Int))) (x33.At == s0_.2.1) false)) (some false)).bind fun (z30:Bool)=>cond z30 ((Xc a0.Words s0_.1).bind fun x37=>(Qa 0 y26 x37.Mask).bind fun y39=>cond (y39 != x37.Old) (some (.inr ())) ((Qa y26 x37.New x37.Mask).bind fun y41=>some (.inl ((IntKind.i64.wrap (s0_.1+1)),y41)))) (some (.inl (s0_.1,y26)))).bind fun (z27:((Int×Int) ⊕ Unit))=>match z27 with | .inl z27=>(Zbs 8 s0_.2.2 ([z27.2]:List Int)).bind fun l44=>some (.inl (z27.1,(IntKind.i64.wrap (s0_.2.1+1)),l44)) | .inr z27=>some (.inr (.inl ()))) (some (.inr (.inr s0_.2.2)))
noncomputable def Yk (Ym:(S_api_Edit→S_api_Tree→Option (S_api_Tree×Bool))) (a0:S_api_Edit) (a1:S_api_Tree) (z13:Int) (s1_:(Int×Int×(List S_api_Tree))):Option ((Int×Int×(List S_api_Tree)) ⊕ (Unit ⊕ (List S_api_Tree))) :=
 cond (decide (s1_.2.1 < z13)) ((U3 a1 s1_.2.1).bind fun y48=>((cond (decide (s1_.1 < (a0.Kids.length:Int))) ((Xc a0.Kids s1_.1).bind fun x55=>some (cond (decide (s1_.1 < (a0.Kids.length:Int))) (x55.At == s1_.2.1) false)) (some false)).bind fun (z52:Bool)=>cond z52 ((Xc a0.Kids s1_.1).bind fun x61=>(Ym x61.E y48).bind fun y63=>cond (!y63.2) (some (.inr ())) (some (.inl ((IntKind.i64.wrap (s1_.1+1)),y63.1.Kind,y63.1.Words,y63.1.Kids)))) (some (.inl (s1_.1,y48.Kind,y48.Words,y48.Kids)))).bind fun (z49:((Int×Int×(List Int)×(List S_api_Tree)) ⊕ Unit))=>match z49 with | .inl z49=>(Zbs 56 s1_.2.2 ([(⟨z49.2.1,z49.2.2.1,z49.2.2.2⟩:S_api_Tree)]:List S_api_Tree)).bind fun l66=>some (.inl (z49.1,(IntKind.i64.wrap (s1_.2.1+1)),l66)) | .inr z49=>some (.inr (.inl ()))) (some (.inr (.inr s1_.2.2)))
noncomputable def Q4 (Ym:(S_api_Edit→S_api_Tree→Option (S_api_Tree×Bool))) (Yp:(S_api_Edit→S_api_Tree→Option (S_api_Tree×Bool))) (Y4:(S_api_Edit→S_api_Tree→Option (S_api_Tree×Bool))) (a0:S_api_Edit) (a1:S_api_Tree):Option (S_api_Tree×Bool) :=
 cond (a1.Kind != 1) (some ((⟨0,[],[]⟩:S_api_Tree),false)) (((cond (decide (0 < (a0.Words.length:Int))) ((Xc a0.Words (IntKind.i64.wrap ((a0.Words.length:Int) - 1))).bind fun x7=>some (cond (decide (0 < (a0.Words.length:Int))) (decide ((a1.Words.length:Int)≤x7.At)) false)) (some false)).bind fun (z4:Bool)=>cond z4 ((Xc a0.Words (IntKind.i64.wrap ((a0.Words.length:Int) - 1))).bind fun x10=>some (IntKind.i64.wrap (x10.At+1))) (some (a1.Words.length:Int))).bind fun (z1:Int)=>((cond (decide (0 < (a0.Kids.length:Int))) ((Xc a0.Kids (IntKind.i64.wrap ((a0.Kids.length:Int) - 1))).bind fun x19=>some (cond (decide (0 < (a0.Kids.length:Int))) (decide ((a1.Kids.length:Int)≤x19.At)) false)) (some false)).bind fun (z16:Bool)=>cond z16 ((Xc a0.Kids (IntKind.i64.wrap ((a0.Kids.length:Int) - 1))).bind fun x22=>some (IntKind.i64.wrap (x22.At+1))) (some (a1.Kids.length:Int))).bind fun (z13:Int)=>(Zw (Yj a0 a1 z1) (0,0,([]:List Int))).bind fun (z46:(Unit ⊕ (List Int)))=>match z46 with | .inl z46=>some ((⟨0,[],[]⟩:S_api_Tree),false) | .inr z46=>(Zw (Yk Ym a0 a1 z13) (0,0,([]:List S_api_Tree))).bind fun (z68:(Unit ⊕ (List S_api_Tree)))=>match z68 with | .inl z68=>some ((⟨0,[],[]⟩:S_api_Tree),false) | .inr z68=>some ((⟨1,z46,z68⟩:S_api_Tree),true))
noncomputable def Xa (a1:S_api_Tree) (x3:S_api_Op) (s1_:(Int×Int×(List S_api_Tree))):Option ((Int×Int×(List S_api_Tree)) ⊕ (Unit ⊕ (Int×(List S_api_Tree)))) :=
 cond (cond (decide (s1_.2.1 < x3.N)) (x3.Kind == 0) false) (cond (decide ((a1.Kids.length:Int)≤s1_.1)) (some (.inr (.inl ()))) ((Xc a1.Kids s1_.1).bind fun x6=>(Zbs 56 s1_.2.2 ([x6]:List S_api_Tree)).bind fun l7=>some (.inl ((IntKind.i64.wrap (s1_.1+1)),(IntKind.i64.wrap (s1_.2.1+1)),l7)))) (some (.inr (.inr (s1_.1,s1_.2.2))))
noncomputable def Yl (a1:S_api_Tree) (x3:S_api_Op) (s2_:(Int×Int×(List S_api_Tree))):Option ((Int×Int×(List S_api_Tree)) ⊕ (Unit ⊕ (Int×(List S_api_Tree)))) :=
 cond (decide (s2_.2.1 < (x3.L.length:Int))) ((cond (x3.Kind == 2) ((Xc x3.L s2_.2.1).bind fun x14=>(Zbs 56 s2_.2.2 ([x14]:List S_api_Tree)).bind fun l15=>some (.inl (s2_.1,l15))) ((cond (decide ((a1.Kids.length:Int)≤s2_.1)) (some true) ((Xc a1.Kids s2_.1).bind fun x23=>(Xc x3.L s2_.2.1).bind fun x24=>(Qu x23 x24).bind fun y25=>some (cond (decide ((a1.Kids.length:Int)≤s2_.1)) true (!y25)))).bind fun (z19:Bool)=>cond z19 (some (.inr ())) (some (.inl ((IntKind.i64.wrap (s2_.1+1)),s2_.2.2))))).bind fun (z11:((Int×(List S_api_Tree)) ⊕ Unit))=>match z11 with | .inl z11=>some (.inl (z11.1,(IntKind.i64.wrap (s2_.2.1+1)),z11.2)) | .inr z11=>some (.inr (.inl ()))) (some (.inr (.inr (s2_.1,s2_.2.2))))
noncomputable def Yc (Ym:(S_api_Edit→S_api_Tree→Option (S_api_Tree×Bool))) (a0:S_api_Edit) (a1:S_api_Tree) (s0_:(Int×Int×(List S_api_Tree))):Option ((Int×Int×(List S_api_Tree)) ⊕ (Unit ⊕ (Int×(List S_api_Tree)))) :=
 cond (decide (s0_.2.1 < (a0.Ops.length:Int))) (((Xc a0.Ops s0_.2.1).bind fun x3=>(Zw (Xa a1 x3) (s0_.1,0,s0_.2.2)).bind fun (z10:(Unit ⊕ (Int×(List S_api_Tree))))=>match z10 with | .inl z10=>some (.inr ()) | .inr z10=>(Zw (Yl a1 x3) (z10.1,0,z10.2)).bind fun (z30:(Unit ⊕ (Int×(List S_api_Tree))))=>match z30 with | .inl z30=>some (.inr ()) | .inr z30=>cond (x3.Kind == 3) (cond (decide ((a1.Kids.length:Int)≤z30.1)) (some (.inr ())) ((Xc a1.Kids z30.1).bind fun x33=>(Ym x3.E x33).bind fun y34=>cond (!y34.2) (some (.inr ())) ((Zbs 56 z30.2 ([y34.1]:List S_api_Tree)).bind fun l36=>some (.inl ((IntKind.i64.wrap (z30.1+1)),l36))))) (some (.inl (z30.1,z30.2)))).bind fun (z1:((Int×(List S_api_Tree)) ⊕ Unit))=>match z1 with | .inl z1=>some (.inl (z1.1,(IntKind.i64.wrap (s0_.2.1+1)),z1.2)) | .inr z1=>some (.inr (.inl ()))) (some (.inr (.inr (s0_.1,s0_.2.2))))
noncomputable def Ub (Ym:(S_api_Edit→S_api_Tree→Option (S_api_Tree×Bool))) (Yp:(S_api_Edit→S_api_Tree→Option (S_api_Tree×Bool))) (Y4:(S_api_Edit→S_api_Tree→Option (S_api_Tree×Bool))) (a0:S_api_Edit) (a1:S_api_Tree):Option (S_api_Tree×Bool) :=
 cond (a1.Kind != a0.List_) (some ((⟨0,[],[]⟩:S_api_Tree),false)) ((Zw (Yc Ym a0 a1) (0,0,([]:List S_api_Tree))).bind fun (z41:(Unit ⊕ (Int×(List S_api_Tree))))=>match z41 with | .inl z41=>some ((⟨0,[],[]⟩:S_api_Tree),false) | .inr z41=>some ((⟨a1.Kind,[],z41.2⟩:S_api_Tree),(z41.1 == (a1.Kids.length:Int))))
noncomputable def Z5:Nat→((S_api_Edit→S_api_Tree→Option (S_api_Tree×Bool))×(S_api_Edit→S_api_Tree→Option (S_api_Tree×Bool))×(S_api_Edit→S_api_Tree→Option (S_api_Tree×Bool)))
 | 0=>((fun _ _=>none),(fun _ _=>none),(fun _ _=>none))
 | k+1=>(Ua ((Z5 k).1) ((Z5 k).2.1) ((Z5 k).2.2),Q4 ((Z5 k).1) ((Z5 k).2.1) ((Z5 k).2.2),Ub ((Z5 k).1) ((Z5 k).2.1) ((Z5 k).2.2))
noncomputable def Zb1 (a0:S_api_Edit) (a1:S_api_Tree):Option (S_api_Tree×Bool):=lim fun k=>(Z5 k).1 a0 a1
noncomputable def Ku (a0:S_api_Edit) (a1:S_api_Tree):Option Bool :=
 ((Uf a1).bind fun y6=>cond y6 ((Ui a0).bind fun y7=>some (cond (!y6) true (!y7))) (some true)).bind fun (z3:Bool)=>cond z3 ((Jr).bind fun y10=>some y10) ((Gi a0 a1).bind fun y12=>(Zb1 a0 a1).bind fun y14=>(cond (y12.2 == y14.2) ((G0 y12.1 y14.1).bind fun y20=>cond y20 ((Jr).bind fun y21=>some (cond (cond (y12.2 == y14.2) y20 false) y21 false)) (some false)) (some false)).bind fun (z17:Bool)=>some z17)
end Go.Proofs.Ytmpkfolcikhofaa
