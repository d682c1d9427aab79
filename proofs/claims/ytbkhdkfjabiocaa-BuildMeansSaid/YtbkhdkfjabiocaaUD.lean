/- Part UD of this seat's mirrors: functions of the seat's program, and the plain functions that they are; each theorem bears its own conditions. -/
import Derived.Test.YtbkhdkfjabiocaaH26
import Derived.Test.YtbkhdkfjabiocaaTy
namespace Go.Proofs.Ytbkhdkfjabiocaa
open Go.RowKit
set_option linter.unusedVariables false
set_option linter.unusedSimpArgs false
set_option maxRecDepth 100000
set_option maxHeartbeats 4000000
structure Zm where
 segments:(List (List Int))
 size:Int
 left:Int
noncomputable def Ztp (a0:Int) (a1:Int):Option Zm :=
 some (⟨([]:(List (List Int))),(if a0 < 1 then 1 else a0),(if 131072 < (if a1 < 0 then 0 else a1) then 131072 else (if a1 < 0 then 0 else a1))⟩:Zm)
noncomputable def Ui (a0:(Option Zm)):Option Int :=
 cond (Option.isNone a0) (some 0) ((a0).bind fun x4=>some (x4.segments.length:Int))
noncomputable def Xd (a0:List Int):Option (List Int) :=
 Zhk 8 ([]:List Int) a0
noncomputable def Vj (a0:(List (List Int))) (s0_:(Int×(List (List Int)))):Option ((Int×(List (List Int))) ⊕ (List (List Int))) :=
 cond (decide (s0_.1 < (a0.length:Int))) ((Z6 a0 s0_.1).bind fun x4=>(Xd x4).bind fun y5=>(Z6 s0_.2 s0_.1).bind fun x6=>some (.inl ((IntKind.i64.wrap (s0_.1+1)),(Xr s0_.2 s0_.1 y5)))) (some (.inr s0_.2))
noncomputable def Zac (a0:(List (List Int))):Option (List (List Int)) :=
 (Zi7 24 (a0.length:Int) ([]:(List Int))).bind fun l2=>(Z8 (Vj a0) (0,l2)).bind fun (z9:(List (List Int)))=>some z9
noncomputable def Xf (a0:(Option Zm)):Option (List (List Int)) :=
 cond (Option.isNone a0) (some ([]:(List (List Int)))) ((a0).bind fun x5=>(Zac x5.segments).bind fun y6=>some y6)
noncomputable def Xz (a0:(Option Zm)) (a1:Int):Option Bool :=
 (cond (decide (0≤a1)) ((Ui a0).bind fun y4=>some (cond (decide (0≤a1)) (decide (a1 < y4)) false)) (some false)).bind fun (z2:Bool)=>some z2
noncomputable def Jg (a0:(Option Zm)) (a1:Int):Option Int :=
 (Xz a0 a1).bind fun y2=>cond (!y2) (some 0) ((a0).bind fun x5=>(Z6 x5.segments a1).bind fun x6=>some (x6.length:Int))
noncomputable def X4 (a0:(Option Zm)) (a1:Int) (a2:Int) (a3:Int):Option Bool :=
 ((Xz a0 a1).bind fun y8=>cond y8 (cond (decide (0≤a2)) (cond (decide (0≤a3)) ((Jg a0 a1).bind fun y9=>cond (decide (a3≤y9)) ((Jg a0 a1).bind fun y10=>some (cond (cond (cond (cond y8 (decide (0≤a2)) false) (decide (0≤a3)) false) (decide (a3≤y9)) false) (decide (a2≤(IntKind.i64.wrap (y10 - a3)))) false)) (some false)) (some false)) (some false)) (some false)).bind fun (z4:Bool)=>some z4
noncomputable def X3 (a0:(Option Zm)) (a1:Int) (a2:Int):Option (Int×Bool) :=
 (X4 a0 a1 a2 1).bind fun y2=>cond (!y2) (some (0,false)) ((a0).bind fun x6=>(Z6 x6.segments a1).bind fun x7=>(Z6 x7 a2).bind fun x8=>some (x8,true))
noncomputable def Vv (a0:(Option Zm)) (a1:Int) (a2:Int) (a3:Int):Option ((List Int)×Bool) :=
 (X4 a0 a1 a2 a3).bind fun y2=>cond (!y2) (some (([]:(List Int)),false)) ((a0).bind fun x7=>(Z6 x7.segments a1).bind fun x8=>(Zhp x8 a2 (IntKind.i64.wrap (a2+a3))).bind fun l9=>(Xd l9).bind fun y10=>some (y10,true))
noncomputable def Zgz (a0:(List (List Int))):Option (Option Zm) :=
 (Zac a0).bind fun y2=>some (some (⟨y2,0,0⟩:Zm))
noncomputable def Qm (a0:(List Int)) (a1:(List Int)) (s0_:Int):Option (Int ⊕ (Unit ⊕ Unit)) :=
 cond (decide (s0_ < (a0.length:Int))) ((Z6 a0 s0_).bind fun x3=>(Z6 a1 s0_).bind fun x4=>cond (x3 != x4) (some (.inr (.inl ()))) (some (.inl (IntKind.i64.wrap (s0_+1))))) (some (.inr (.inr ())))
noncomputable def Q2 (a0:(List Int)) (a1:(List Int)):Option Bool :=
 cond ((a0.length:Int) != (a1.length:Int)) (some false) ((Z8 (Qm a0 a1) 0).bind fun (z7:(Unit ⊕ Unit))=>match z7 with | .inl z7=>some false | .inr z7=>some true)
noncomputable def Uk (a0:(List (List Int))) (a1:(List (List Int))) (s0_:Int):Option (Int ⊕ (Unit ⊕ Unit)) :=
 cond (decide (s0_ < (a0.length:Int))) ((Z6 a0 s0_).bind fun x4=>(Z6 a1 s0_).bind fun x5=>(Q2 x4 x5).bind fun y6=>cond (!y6) (some (.inr (.inl ()))) (some (.inl (IntKind.i64.wrap (s0_+1))))) (some (.inr (.inr ())))
noncomputable def Uj (a0:(List (List Int))) (a1:(List (List Int))):Option Bool :=
 cond ((a0.length:Int) != (a1.length:Int)) (some false) ((Z8 (Uk a0 a1) 0).bind fun (z9:(Unit ⊕ Unit))=>match z9 with | .inl z9=>some false | .inr z9=>some true)
structure Zd where
 Kind:Int
 Words:(List Int)
 Kids:(List Zd)
noncomputable def Xl (Jm:(Zd→Int→Int→Option Int)) (a0:Zd) (a1:Int) (s0_:(Int×Int)):Option ((Int×Int) ⊕ Int) :=
 cond (cond (decide (s0_.2 < (a0.Kids.length:Int))) (decide (0≤s0_.1)) false) ((Z6 a0.Kids s0_.2).bind fun x1=>(Jm x1 (IntKind.i64.wrap (a1 - 1)) s0_.1).bind fun y2=>some (.inl (y2,(IntKind.i64.wrap (s0_.2+1))))) (some (.inr s0_.1))
noncomputable def Xo (Jm:(Zd→Int→Int→Option Int)) (a0:Zd) (a1:Int) (a2:Int):Option Int :=
 cond (cond (a1 == 0) true (decide ((IntKind.i64.wrap ((IntKind.i64.wrap (a2 - 1)) - (a0.Words.length:Int))) < 0))) (some (-1)) ((Z8 (Xl Jm a0 a1) ((IntKind.i64.wrap ((IntKind.i64.wrap (a2 - 1)) - (a0.Words.length:Int))),0)).bind fun (z4:Int)=>some z4)
noncomputable def Yi:Nat→(Zd→Int→Int→Option Int)
 | 0=>(fun _ _ _=>none)
 | k+1=>Xo ((Yi k))
noncomputable def Za1 (a0:Zd) (a1:Int) (a2:Int):Option Int:=lim fun k=>(Yi k) a0 a1 a2
noncomputable def Gb (a0:Zd):Option Bool :=
 (Za1 a0 80 3000).bind fun y2=>some (decide (0≤y2))
noncomputable def Za3 (a0:Int):Option Bool :=
 some (cond (decide (2≤a0)) (decide (a0≤9)) false)
noncomputable def Kr (a0:(List Zd)) (s0_:Int):Option (Int ⊕ (Unit ⊕ Unit)) :=
 cond (decide (s0_ < (a0.length:Int))) ((Z6 a0 s0_).bind fun x2=>cond (x2.Kind != 1) (some (.inr (.inl ()))) (some (.inl (IntKind.i64.wrap (s0_+1))))) (some (.inr (.inr ())))
noncomputable def Un (a0:(List Zd)):Option Bool :=
 (Z8 (Kr a0) 0).bind fun (z5:(Unit ⊕ Unit))=>match z5 with | .inl z5=>some false | .inr z5=>some true
noncomputable def Qt (a0:Int):Option (Int×Bool) :=
 ((some (⟨[0,1,8,16,32,64],rfl⟩:(Arr Int 6)))).bind fun y6=>((some (⟨[0,0,0,0,0,0],rfl⟩:(Arr Int 6)))).bind fun y8=>cond (cond (decide (a0 < 0)) true (decide (6≤a0))) (some (0,false)) ((Z6 y6.1 a0).bind fun x12=>some (x12,true))
noncomputable def Zcf (a0:Int) (a1:Int):Option Bool :=
 (Qt a0).bind fun y2=>(cond y2.2 ((Ja (0≤y2.1)).bind fun u6=>some (cond y2.2 ((Int.fdiv a1 (2 ^ min (Int.toNat y2.1) 64)) == 0) false)) (some false)).bind fun (z4:Bool)=>some z4
noncomputable def Zcy (Y5:(Zd→Option Bool)) (Yz:(Zd→Int→Option Bool)) (Yo:((List Zd)→Int→Option Bool)) (Yv:((List Zd)→Int→Option Bool)) (a0:Zd):Option Bool :=
 cond (a0.Kind == 10) (some (cond ((a0.Words.length:Int) == 1) ((a0.Kids.length:Int) == 0) false)) ((Yz a0 64).bind fun y2=>some y2)
noncomputable def Zcz (Y5:(Zd→Option Bool)) (Yz:(Zd→Int→Option Bool)) (Yo:((List Zd)→Int→Option Bool)) (Yv:((List Zd)→Int→Option Bool)) (a0:Zd) (a1:Int):Option Bool :=
 cond (a0.Kind == 0) (some (cond ((a0.Words.length:Int) == 0) ((a0.Kids.length:Int) == 0) false)) (cond (a1 == 0) (some false) (cond (a0.Kind == 1) ((cond (decide ((a0.Words.length:Int) < 65536)) (cond (decide ((a0.Kids.length:Int) < 65536)) ((Yo a0.Kids (IntKind.i64.wrap (a1 - 1))).bind fun y4=>some (cond (cond (decide ((a0.Words.length:Int) < 65536)) (decide ((a0.Kids.length:Int) < 65536)) false) y4 false)) (some false)) (some false)).bind fun (z2:Bool)=>some z2) ((Za3 a0.Kind).bind fun y8=>cond (cond (cond (!y8) true (decide (0 < (a0.Words.length:Int)))) true (decide (1048576≤(a0.Kids.length:Int)))) (some false) (cond (a0.Kind == 8) ((Yo a0.Kids (IntKind.i64.wrap (a1 - 1))).bind fun y10=>some y10) (cond (a0.Kind == 9) (((Un a0.Kids).bind fun y16=>cond y16 ((Yo a0.Kids (IntKind.i64.wrap (a1 - 1))).bind fun y17=>some (cond y16 y17 false)) (some false)).bind fun (z13:Bool)=>some z13) ((Yv a0.Kids (IntKind.i64.wrap (a0.Kind - 2))).bind fun y20=>some y20))))))
noncomputable def Vs (Yz:(Zd→Int→Option Bool)) (a0:(List Zd)) (a1:Int) (s0_:Int):Option (Int ⊕ (Unit ⊕ Unit)) :=
 cond (decide (s0_ < (a0.length:Int))) ((Z6 a0 s0_).bind fun x2=>(Yz x2 a1).bind fun y4=>cond (!y4) (some (.inr (.inl ()))) (some (.inl (IntKind.i64.wrap (s0_+1))))) (some (.inr (.inr ())))
noncomputable def Gw (Y5:(Zd→Option Bool)) (Yz:(Zd→Int→Option Bool)) (Yo:((List Zd)→Int→Option Bool)) (Yv:((List Zd)→Int→Option Bool)) (a0:(List Zd)) (a1:Int):Option Bool :=
 (Z8 (Vs Yz a0 a1) 0).bind fun (z7:(Unit ⊕ Unit))=>match z7 with | .inl z7=>some false | .inr z7=>some true
noncomputable def Vr (Y5:(Zd→Option Bool)) (a0:(List Zd)) (a1:Int) (s0_:Int):Option (Int ⊕ (Unit ⊕ Unit)) :=
 cond (decide (s0_ < (a0.length:Int))) ((Z6 a0 s0_).bind fun x2=>(cond (x2.Kind != 10) (some true) ((Y5 x2).bind fun y10=>cond y10 ((Z6 x2.Words 0).bind fun x11=>(Zcf a1 x11).bind fun y12=>some (cond (cond (x2.Kind != 10) true (!y10)) true (!y12))) (some true))).bind fun (z6:Bool)=>cond z6 (some (.inr (.inl ()))) (some (.inl (IntKind.i64.wrap (s0_+1))))) (some (.inr (.inr ())))
noncomputable def Gv (Y5:(Zd→Option Bool)) (Yz:(Zd→Int→Option Bool)) (Yo:((List Zd)→Int→Option Bool)) (Yv:((List Zd)→Int→Option Bool)) (a0:(List Zd)) (a1:Int):Option Bool :=
 (Z8 (Vr Y5 a0 a1) 0).bind fun (z17:(Unit ⊕ Unit))=>match z17 with | .inl z17=>some false | .inr z17=>some true
noncomputable def Zz:Nat→((Zd→Option Bool)×(Zd→Int→Option Bool)×((List Zd)→Int→Option Bool)×((List Zd)→Int→Option Bool))
 | 0=>((fun _=>none),(fun _ _=>none),(fun _ _=>none),(fun _ _=>none))
 | k+1=>(Zcy ((Zz k).1) ((Zz k).2.1) ((Zz k).2.2.1) ((Zz k).2.2.2),Zcz ((Zz k).1) ((Zz k).2.1) ((Zz k).2.2.1) ((Zz k).2.2.2),Gw ((Zz k).1) ((Zz k).2.1) ((Zz k).2.2.1) ((Zz k).2.2.2),Gv ((Zz k).1) ((Zz k).2.1) ((Zz k).2.2.1) ((Zz k).2.2.2))
noncomputable def Zqs (a0:Zd):Option Bool:=lim fun k=>(Zz k).1 a0
noncomputable def Va (a0:(List Int)) (s0_:Int):Option (Int ⊕ Int) :=
 (cond (decide (0 < s0_)) ((Z6 a0 (IntKind.i64.wrap (s0_ - 1))).bind fun x4=>some (cond (decide (0 < s0_)) (x4 == 0) false)) (some false)).bind fun (z2:Bool)=>cond z2 (some (.inl (IntKind.i64.wrap (s0_ - 1)))) (some (.inr s0_))
noncomputable def Gc (a0:(List Int)):Option (List Int) :=
 (Z8 (Va a0) (a0.length:Int)).bind fun (z7:Int)=>(Zhp a0 0 z7).bind fun l9=>some l9
noncomputable def Vy (a0:(List Zd)) (s0_:Int):Option (Int ⊕ Int) :=
 (cond (decide (0 < s0_)) ((Z6 a0 (IntKind.i64.wrap (s0_ - 1))).bind fun x6=>some (cond (decide (0 < s0_)) (x6.Kind == 0) false)) (some false)).bind fun (z3:Bool)=>cond z3 (some (.inl (IntKind.i64.wrap (s0_ - 1)))) (some (.inr s0_))
noncomputable def Gz (a0:(List Zd)):Option (List Zd) :=
 (Z8 (Vy a0) (a0.length:Int)).bind fun (z10:Int)=>(Zhp a0 0 z10).bind fun l12=>some l12
noncomputable def U5 (Zcm:(Zd→Option Zd)) (z1:((List Int)×(List Zd))) (s0_:(Int×(List Zd))):Option ((Int×(List Zd)) ⊕ (List Zd)) :=
 cond (decide (s0_.1 < (z1.2.length:Int))) ((Z6 z1.2 s0_.1).bind fun x9=>(Zcm x9).bind fun y10=>(Z6 s0_.2 s0_.1).bind fun x11=>some (.inl ((IntKind.i64.wrap (s0_.1+1)),(Xr s0_.2 s0_.1 y10)))) (some (.inr s0_.2))
noncomputable def Ze4 (Zcm:(Zd→Option Zd)) (a0:Zd):Option Zd :=
 cond (a0.Kind == 0) (some (⟨0,[],[]⟩:Zd)) ((cond (a0.Kind == 1) ((Gc a0.Words).bind fun y2=>(Gz a0.Kids).bind fun y3=>some (y2,y3)) (some (a0.Words,a0.Kids))).bind fun (z1:((List Int)×(List Zd)))=>(cond (decide (0 < (z1.2.length:Int))) ((Zi7 56 (z1.2.length:Int) (⟨(0:Int),[],[]⟩:Zd)).bind fun l6=>some l6) (some ([]:List Zd))).bind fun (z5:(List Zd))=>(Z8 (U5 Zcm z1) (0,z5)).bind fun (z14:(List Zd))=>some (⟨a0.Kind,z1.1,z14⟩:Zd))
noncomputable def Vd:Nat→(Zd→Option Zd)
 | 0=>(fun _=>none)
 | k+1=>Ze4 ((Vd k))
noncomputable def Zll (a0:Zd):Option Zd:=lim fun k=>(Vd k) a0
noncomputable def Kq (a0:(List Int)) (s0_:Int):Option (Int ⊕ Int) :=
 (cond (decide (0 < s0_)) ((Z6 a0 (IntKind.i64.wrap (s0_ - 1))).bind fun x4=>some (cond (decide (0 < s0_)) (x4 == 0) false)) (some false)).bind fun (z2:Bool)=>cond z2 (some (.inl (IntKind.i64.wrap (s0_ - 1)))) (some (.inr s0_))
noncomputable def Ul (a0:(List Int)):Option (List Int) :=
 (Z8 (Kq a0) (a0.length:Int)).bind fun (z7:Int)=>(Zhp a0 0 z7).bind fun l10=>(Zhk 8 ([]:List Int) l10).bind fun l11=>some l11
noncomputable def Qg (K1:(Zd→Option Zd)) (a0:Zd) (s0_:(Int×Int×(List Zd))):Option ((Int×Int×(List Zd)) ⊕ (Int×(List Zd))) :=
 cond (decide (s0_.2.1 < (a0.Kids.length:Int))) (((Z6 a0.Kids s0_.2.1).bind fun x4=>(K1 x4).bind fun y5=>(Zhk 56 s0_.2.2 ([y5]:List Zd)).bind fun l7=>cond (y5.Kind != 0) (some ((IntKind.i64.wrap (s0_.2.1+1)),l7)) (some (s0_.1,l7))).bind fun (z1:(Int×(List Zd)))=>some (.inl (z1.1,(IntKind.i64.wrap (s0_.2.1+1)),z1.2))) (some (.inr (s0_.1,s0_.2.2)))
noncomputable def Ue (K1:(Zd→Option Zd)) (a0:Zd):Option Zd :=
 cond (a0.Kind == 0) (some (⟨0,[],[]⟩:Zd)) ((Z8 (Qg K1 a0) (0,0,([]:List Zd))).bind fun (z10:(Int×(List Zd)))=>cond (a0.Kind == 1) ((Ul a0.Words).bind fun y14=>(Zhp z10.2 0 z10.1).bind fun l15=>some (⟨1,y14,l15⟩:Zd)) ((Zhk 8 ([]:List Int) a0.Words).bind fun l17=>some (⟨a0.Kind,l17,z10.2⟩:Zd)))
noncomputable def Xh:Nat→(Zd→Option Zd)
 | 0=>(fun _=>none)
 | k+1=>Ue ((Xh k))
noncomputable def Zc9 (a0:Zd):Option Zd:=lim fun k=>(Xh k) a0
noncomputable def Kb (a0:Zd) (s0_:(Int×Int×Int)):Option ((Int×Int×Int) ⊕ (Int×Int)) :=
 cond (decide (s0_.2.2 < (a0.Kids.length:Int))) ((((Z6 a0.Kids s0_.2.2).bind fun x5=>cond (decide (s0_.1 < (x5.Words.length:Int))) ((Z6 a0.Kids s0_.2.2).bind fun x7=>some (x7.Words.length:Int)) (some s0_.1)).bind fun (z2:Int)=>(Z6 a0.Kids s0_.2.2).bind fun x12=>cond (decide (s0_.2.1 < (x12.Kids.length:Int))) ((Z6 a0.Kids s0_.2.2).bind fun x14=>some (z2,(x14.Kids.length:Int))) (some (z2,s0_.2.1))).bind fun (z1:(Int×Int))=>some (.inl (z1.1,z1.2,(IntKind.i64.wrap (s0_.2.2+1))))) (some (.inr (s0_.1,s0_.2.1)))
noncomputable def Vx (a0:Zd):Option (Int×Int) :=
 (Z8 (Kb a0) (0,0,0)).bind fun (z18:(Int×Int))=>some (z18.1,z18.2)
noncomputable def Gy (a0:Zd) (s0_:(Int×Int×Int)):Option ((Int×Int×Int) ⊕ (Int×Int)) :=
 cond (decide (s0_.2.2 < (a0.Kids.length:Int))) ((Z6 a0.Kids s0_.2.2).bind fun x2=>some (.inl ((if s0_.1 < (x2.Words.length:Int) then (x2.Words.length:Int) else s0_.1),(if s0_.2.1 < (x2.Kids.length:Int) then (x2.Kids.length:Int) else s0_.2.1),(IntKind.i64.wrap (s0_.2.2+1))))) (some (.inr (s0_.1,s0_.2.1)))
noncomputable def Zdf (a0:Zd):Option (Int×Int) :=
 (Z8 (Gy a0) (0,0,0)).bind fun (z4:(Int×Int))=>some (z4.1,z4.2)
structure Zx where
 Kind:Int
 Off:Int
 Data:Int
 Ptrs:Int
 Code:Int
 Count:Int
 Segment:Int
 Double:Bool
noncomputable def Ze1 (a0:Zd):Option Zx :=
 cond (a0.Kind == 1) (some (⟨1,0,(a0.Words.length:Int),(a0.Kids.length:Int),0,0,0,false⟩:Zx)) (cond (a0.Kind == 9) ((Zdf a0).bind fun y2=>some (⟨2,0,0,0,7,(IntKind.i64.wrap ((a0.Kids.length:Int) * (IntKind.i64.wrap (y2.1+y2.2)))),0,false⟩:Zx)) (some (⟨2,0,0,0,(IntKind.i64.wrap (a0.Kind - 2)),(a0.Kids.length:Int),0,false⟩:Zx)))
noncomputable def Ze9 (a0:Zd) (a1:Int):Option Int :=
 cond (cond (decide (a1 < 0)) true (decide ((a0.Words.length:Int)≤a1))) (some 0) ((Z6 a0.Words a1).bind fun x2=>some x2)
noncomputable def Zfa (a0:Int) (a1:Int):Option Int :=
 (Qt a0).bind fun y2=>cond (cond (cond (!y2.2) true (decide (a1 < 0))) true (decide (1099511627776 < a1))) (some 0) (some (IntKind.i64.wrap (Int.tdiv (IntKind.i64.wrap ((IntKind.i64.wrap (a1 * y2.1))+63)) 64)))
noncomputable def Zaf (a0:Int) (a1:(List Int)) (s0_:(Bool×Int)):Option ((Bool×Int) ⊕ Bool) :=
 cond (decide (s0_.2 < (a1.length:Int))) ((Z6 a1 s0_.2).bind fun x4=>cond s0_.1 ((Zcf a0 x4).bind fun y5=>some (.inl ((cond s0_.1 y5 false),(IntKind.i64.wrap (s0_.2+1))))) (some (.inl (false,(IntKind.i64.wrap (s0_.2+1)))))) (some (.inr s0_.1))
noncomputable def Uw (a1:(List Int)) (y2:(Int×Bool)) (s1_:(Int×(List Int))):Option ((Int×(List Int)) ⊕ (List Int)) :=
 cond (decide (s1_.1 < (a1.length:Int))) ((Z6 a1 s1_.1).bind fun x16=>(Ja ((IntKind.i64.wrap (Int.tdiv 64 y2.1))≠0)).bind fun u17=>(Z6 s1_.2 (IntKind.i64.wrap (Int.tdiv s1_.1 (IntKind.i64.wrap (Int.tdiv 64 y2.1))))).bind fun x18=>(Ja ((IntKind.i64.wrap (Int.tdiv 64 y2.1))≠0)).bind fun u19=>(Ja (0≤(IntKind.i64.wrap ((Int.tmod s1_.1 (IntKind.i64.wrap (Int.tdiv 64 y2.1))) * y2.1)))).bind fun u20=>some (.inl ((IntKind.i64.wrap (s1_.1+1)),(Xr s1_.2 (IntKind.i64.wrap (Int.tdiv s1_.1 (IntKind.i64.wrap (Int.tdiv 64 y2.1)))) (IntKind.u64.wrap (Zar .u64 x18 (IntKind.u64.wrap (x16 * 2 ^ min (Int.toNat (IntKind.i64.wrap ((Int.tmod s1_.1 (IntKind.i64.wrap (Int.tdiv 64 y2.1))) * y2.1))) 64)))))))) (some (.inr s1_.2))
noncomputable def Zeb (a0:Int) (a1:(List Int)):Option ((List Int)×Bool) :=
 (Qt a0).bind fun y2=>(Z8 (Zaf a0 a1) (y2.2,0)).bind fun (z8:Bool)=>cond (!z8) (some (([]:(List Int)),false)) ((Zfa a0 (a1.length:Int)).bind fun y11=>(Zi7 8 y11 (0:Int)).bind fun l12=>cond (y2.1 == 0) (some (l12,true)) ((Ja (y2.1≠0)).bind fun u14=>(Z8 (Uw a1 y2) (0,l12)).bind fun (z24:(List Int))=>some (z24,true)))
noncomputable def Vw (a0:Zd) (s0_:(Int×(List Int))):Option ((Int×(List Int)) ⊕ (List Int)) :=
 cond (decide (s0_.1 < (a0.Kids.length:Int))) ((Z6 a0.Kids s0_.1).bind fun x2=>(Ze9 x2 0).bind fun y3=>(Zhk 8 s0_.2 ([y3]:List Int)).bind fun l4=>some (.inl ((IntKind.i64.wrap (s0_.1+1)),l4))) (some (.inr s0_.2))
noncomputable def Zby (a0:Zd):Option (List Int) :=
 (Z8 (Vw a0) (0,([]:List Int))).bind fun (z6:(List Int))=>(Zeb (IntKind.i64.wrap (a0.Kind - 2)) z6).bind fun y8=>some y8.1
noncomputable def Zi6 (a0:Zx):Option Int :=
 cond (a0.Kind == 1) (some (IntKind.u64.wrap (Zar .u64 (IntKind.u64.wrap (Zar .u64 (IntKind.u64.wrap (IntKind.u32.wrap ((IntKind.u32.wrap a0.Off) * 2 ^ min (Int.toNat 2) 32))) (IntKind.u64.wrap ((IntKind.u64.wrap a0.Data) * 2 ^ min (Int.toNat 32) 64)))) (IntKind.u64.wrap ((IntKind.u64.wrap a0.Ptrs) * 2 ^ min (Int.toNat 48) 64))))) (cond (a0.Kind == 2) (some (IntKind.u64.wrap (Zar .u64 (IntKind.u64.wrap (Zar .u64 (IntKind.u64.wrap (Zar .u64 1 (IntKind.u64.wrap (IntKind.u32.wrap ((IntKind.u32.wrap a0.Off) * 2 ^ min (Int.toNat 2) 32))))) (IntKind.u64.wrap ((IntKind.u64.wrap a0.Code) * 2 ^ min (Int.toNat 32) 64)))) (IntKind.u64.wrap ((IntKind.u64.wrap a0.Count) * 2 ^ min (Int.toNat 35) 64))))) (cond (a0.Kind == 3) ((cond a0.Double (some (IntKind.u64.wrap (Zar .u64 (IntKind.u64.wrap (Zar .u64 (IntKind.u64.wrap (Zar .u64 2 (IntKind.u64.wrap ((IntKind.u64.wrap a0.Off) * 2 ^ min (Int.toNat 3) 64)))) (IntKind.u64.wrap ((IntKind.u64.wrap a0.Segment) * 2 ^ min (Int.toNat 32) 64)))) 4))) (some (IntKind.u64.wrap (Zar .u64 (IntKind.u64.wrap (Zar .u64 2 (IntKind.u64.wrap ((IntKind.u64.wrap a0.Off) * 2 ^ min (Int.toNat 3) 64)))) (IntKind.u64.wrap ((IntKind.u64.wrap a0.Segment) * 2 ^ min (Int.toNat 32) 64)))))).bind fun (z1:Int)=>some z1) (some 0)))
noncomputable def Zde (a0:Int):Option Int :=
 some (IntKind.i64.wrap (Int.fdiv (IntKind.i32.wrap (IntKind.u32.wrap a0)) (2 ^ min (Int.toNat 2) 32)))
noncomputable def X0 (a0:Int) (a1:Int) (a2:Int):Option Int :=
 (Ja (0≤a1)).bind fun u3=>(Ja (0≤a2)).bind fun u4=>some (IntKind.i64.wrap (IntKind.u64.wrap (Zaz .u64 (Int.fdiv a0 (2 ^ min (Int.toNat a1) 64)) (IntKind.u64.wrap ((IntKind.u64.wrap (1 * 2 ^ min (Int.toNat a2) 64)) - 1)))))
noncomputable def Jx (a0:Int):Option Zx :=
 cond (a0 == 0) (some (⟨0,0,0,0,0,0,0,false⟩:Zx)) (cond ((IntKind.u64.wrap (Zaz .u64 a0 3)) == 0) ((Zde a0).bind fun y4=>(X0 a0 32 16).bind fun y5=>(X0 a0 48 16).bind fun y6=>some (⟨1,y4,y5,y6,0,0,0,false⟩:Zx)) (cond ((IntKind.u64.wrap (Zaz .u64 a0 3)) == 1) ((Zde a0).bind fun y10=>(X0 a0 32 3).bind fun y11=>(X0 a0 35 29).bind fun y12=>some (⟨2,y10,0,0,y11,y12,0,false⟩:Zx)) (cond ((IntKind.u64.wrap (Zaz .u64 a0 3)) == 2) ((X0 a0 3 29).bind fun y15=>(X0 a0 32 32).bind fun y16=>some (⟨3,y15,0,0,0,0,y16,((IntKind.u64.wrap (Zaz .u64 (Int.fdiv a0 (2 ^ min (Int.toNat 2) 64)) 1)) == 1)⟩:Zx)) (some (⟨4,0,0,0,0,0,0,false⟩:Zx)))))
noncomputable def Ve (a0:Zx):Option (Int×Bool) :=
 (Zi6 a0).bind fun y2=>(cond (a0.Kind != 4) ((Jx y2).bind fun y6=>some (cond (a0.Kind != 4) ((y6.Kind == a0.Kind) && ((y6.Off == a0.Off) && ((y6.Data == a0.Data) && ((y6.Ptrs == a0.Ptrs) && ((y6.Code == a0.Code) && ((y6.Count == a0.Count) && ((y6.Segment == a0.Segment) && (y6.Double == a0.Double)))))))) false)) (some false)).bind fun (z4:Bool)=>some (y2,z4)
noncomputable def Gp (a0:Zx):Option Int :=
 (Ve a0).bind fun y2=>some y2.1
noncomputable def Zce (a0:Int):Option Int :=
 ((some (⟨[0,1,8,16,32,64,64],rfl⟩:(Arr Int 7)))).bind fun y6=>((some (⟨[0,0,0,0,0,0,0],rfl⟩:(Arr Int 7)))).bind fun y8=>(Z6 y6.1 a0).bind fun x12=>some x12
noncomputable def Qo (a0:Zx):Option (Int×Bool) :=
 cond (a0.Kind == 1) (some ((IntKind.i64.wrap (a0.Data+a0.Ptrs)),true)) (cond (cond (a0.Kind == 2) (a0.Code == 7) false) (some ((IntKind.i64.wrap (a0.Count+1)),true)) (cond (cond (cond (cond (cond (a0.Kind == 2) (decide (0≤a0.Code)) false) (decide (a0.Code < 7)) false) (decide (0≤a0.Count)) false) (decide (a0.Count≤536870911)) false) ((Zce a0.Code).bind fun y2=>some ((IntKind.i64.wrap (Int.tdiv (IntKind.i64.wrap ((IntKind.i64.wrap (a0.Count * y2))+63)) 64)),true)) (some (0,false))))
noncomputable def Ua (a0:Int) (a1:Int):Option Int :=
 some (if a1 < (if a0 < 0 then 0 else a0) then a1 else (if a0 < 0 then 0 else a0))
structure Ym where
 Depth:Int
 Weight:Int
 MaxD:Int
 MaxOut:Int
noncomputable def Zdg (a0:Ym):Option Ym :=
 (Ua a0.Depth 64).bind fun y5=>(Ua a0.Weight 65536).bind fun y6=>(Ua a0.MaxD 4096).bind fun y7=>(Ua a0.MaxOut 131072).bind fun y8=>some (⟨y5,y6,y7,y8⟩:Ym)
structure Xb where
 P:Zx
 Segment:Int
 At:Int
noncomputable def Gq (a0:(Option Zm)) (a1:Zx) (a2:Int) (a3:Int):Option (Xb×Int) :=
 cond (a1.Kind == 4) (some ((⟨⟨0,0,0,0,0,0,0,false⟩,0,0⟩:Xb),9)) ((Qo a1).bind fun y2=>cond (!y2.2) (some ((⟨⟨0,0,0,0,0,0,0,false⟩,0,0⟩:Xb),8)) ((X4 a0 a2 a3 y2.1).bind fun y4=>cond (!y4) (some ((⟨⟨0,0,0,0,0,0,0,false⟩,0,0⟩:Xb),7)) (some ((⟨⟨a1.Kind,0,a1.Data,a1.Ptrs,a1.Code,a1.Count,a1.Segment,a1.Double⟩,a2,a3⟩:Xb),0))))
noncomputable def Zdc (a0:(Option Zm)) (a1:Int) (a2:Int):Option (Xb×Int) :=
 (Vv a0 a1 a2 2).bind fun y2=>cond (!y2.2) (some ((⟨⟨0,0,0,0,0,0,0,false⟩,0,0⟩:Xb),7)) ((Z6 y2.1 0).bind fun x3=>(Jx x3).bind fun y4=>(Z6 y2.1 1).bind fun x5=>(Jx x5).bind fun y6=>cond (cond (y4.Kind != 3) true y4.Double) (some ((⟨⟨0,0,0,0,0,0,0,false⟩,0,0⟩:Xb),8)) (cond (cond (y6.Kind != 4) (y6.Off != 0) false) (some ((⟨⟨0,0,0,0,0,0,0,false⟩,0,0⟩:Xb),8)) ((Gq a0 y6 y4.Segment y4.Off).bind fun y8=>some (y8.1,y8.2))))
noncomputable def Zdd (a0:(Option Zm)) (a1:Int) (a2:Int):Option (Xb×Int) :=
 (X3 a0 a1 a2).bind fun y2=>cond (!y2.2) (some ((⟨⟨0,0,0,0,0,0,0,false⟩,0,0⟩:Xb),7)) ((Jx y2.1).bind fun y4=>(Gq a0 y4 a1 (IntKind.i64.wrap ((IntKind.i64.wrap (a2+1))+y4.Off))).bind fun y6=>some (y6.1,y6.2))
noncomputable def Zdb (a0:(Option Zm)) (a1:Int) (a2:Int):Option (Xb×Int) :=
 (X3 a0 a1 a2).bind fun y2=>cond (!y2.2) (some ((⟨⟨0,0,0,0,0,0,0,false⟩,0,0⟩:Xb),7)) ((Jx y2.1).bind fun y4=>cond (y4.Kind == 0) (some ((⟨⟨0,0,0,0,0,0,0,false⟩,0,0⟩:Xb),0)) (cond (cond (y4.Kind == 3) y4.Double false) ((Zdc a0 y4.Segment y4.Off).bind fun y6=>some (y6.1,y6.2)) (cond (y4.Kind == 3) ((Zdd a0 y4.Segment y4.Off).bind fun y8=>some (y8.1,y8.2)) ((Gq a0 y4 a1 (IntKind.i64.wrap ((IntKind.i64.wrap (a2+1))+y4.Off))).bind fun y10=>some (y10.1,y10.2)))))
structure Ze where
 a:(Option Zm)
 kind:Int
 segment:Int
 at_:Int
 words:Int
 ptrs:Int
 count:Int
 code:Int
 index:Int
noncomputable def Gs (a0:Ze):Option (Ze×Int) :=
 (X3 a0.a a0.segment a0.at_).bind fun y2=>(Jx y2.1).bind fun y4=>cond (cond (cond (cond (y4.Kind != 0) (y4.Kind != 1) false) true (decide (y4.Off < 0))) true (decide (a0.count < (IntKind.i64.wrap (y4.Off * (IntKind.i64.wrap (y4.Data+y4.Ptrs))))))) (some ((⟨(none:(Option Zm)),0,0,0,0,0,0,0,0⟩:Ze),8)) (some ((⟨a0.a,a0.kind,a0.segment,a0.at_,y4.Data,y4.Ptrs,y4.Off,a0.code,a0.index⟩:Ze),0))
noncomputable def Za2 (a0:(Option Zm)) (a1:Int) (a2:Int):Option (Ze×Int) :=
 (Zdb a0 a1 a2).bind fun y2=>cond (cond (y2.2 != 0) true (y2.1.P.Kind == 0)) (some ((⟨(none:(Option Zm)),0,0,0,0,0,0,0,0⟩:Ze),y2.2)) (cond (y2.1.P.Kind == 1) (some ((⟨a0,1,y2.1.Segment,y2.1.At,y2.1.P.Data,y2.1.P.Ptrs,0,0,0⟩:Ze),0)) (cond (y2.1.P.Code == 7) ((Gs (⟨a0,(IntKind.i64.wrap (y2.1.P.Code+2)),y2.1.Segment,y2.1.At,0,0,y2.1.P.Count,0,0⟩:Ze)).bind fun y4=>some (y4.1,y4.2)) (some ((⟨a0,(IntKind.i64.wrap (y2.1.P.Code+2)),y2.1.Segment,y2.1.At,0,0,y2.1.P.Count,0,0⟩:Ze),0))))
noncomputable def Zae (a0:(Option Zm)):Option (Ze×Int) :=
 (Za2 a0 0 0).bind fun y2=>some (y2.1,y2.2)
noncomputable def Yk (a0:Ze):Option Int :=
 some a0.kind
noncomputable def Yt (a0:Ze):Option Int :=
 cond (a0.kind == 1) (some a0.ptrs) (some a0.count)
noncomputable def Za6 (a0:Ze):Option Int :=
 (Yk a0).bind fun y2=>cond (y2 == 0) (some 0) (((Yk a0).bind fun y8=>cond (y8 == 9) ((Yt a0).bind fun y9=>some (cond (y8 == 9) (decide (0 < y9)) false)) (some false)).bind fun (z5:Bool)=>cond z5 (some 2) (some 1))
noncomputable def Qn (a0:Ze):Option Int :=
 cond (a0.kind == 1) (some a0.words) (cond (a0.kind == 10) (some 1) (some 0))
noncomputable def Gr (a0:Ze):Option (Int×Int) :=
 cond (a0.kind != 9) (some (0,0)) (some (a0.words,a0.ptrs))
noncomputable def Gf (a0:Ze):Option Int :=
 (Yk a0).bind fun y2=>cond (y2 == 0) (some 0) (cond (y2 == 1) ((Qn a0).bind fun y5=>(Yt a0).bind fun y6=>some (IntKind.i64.wrap ((IntKind.i64.wrap (1+y5))+y6))) (cond (y2 == 9) ((Gr a0).bind fun y8=>(Yt a0).bind fun y10=>some (IntKind.i64.wrap (1+(IntKind.i64.wrap (y10 * (IntKind.i64.wrap ((IntKind.i64.wrap (1+y8.1))+y8.2))))))) ((Yt a0).bind fun y12=>some (IntKind.i64.wrap (1+y12)))))
noncomputable def Jl (a0:Ze) (a1:Int):Option (Ze×Int) :=
 (cond (decide (a1 < 0)) (some true) ((Yt a0).bind fun y4=>some (cond (decide (a1 < 0)) true (decide (y4≤a1))))).bind fun (z2:Bool)=>cond z2 (some ((⟨(none:(Option Zm)),0,0,0,0,0,0,0,0⟩:Ze),0)) (cond (a0.kind == 1) ((Za2 a0.a a0.segment (IntKind.i64.wrap ((IntKind.i64.wrap (a0.at_+a0.words))+a1))).bind fun y7=>some (y7.1,y7.2)) (cond (a0.kind == 8) ((Za2 a0.a a0.segment (IntKind.i64.wrap (a0.at_+a1))).bind fun y9=>some (y9.1,y9.2)) (cond (a0.kind == 9) (some ((⟨a0.a,1,a0.segment,(IntKind.i64.wrap ((IntKind.i64.wrap (a0.at_+1))+(IntKind.i64.wrap (a1 * (IntKind.i64.wrap (a0.words+a0.ptrs)))))),a0.words,a0.ptrs,0,0,0⟩:Ze),0)) (some ((⟨a0.a,10,a0.segment,a0.at_,0,0,0,(IntKind.i64.wrap (a0.kind - 2)),a1⟩:Ze),0)))))
structure Zh where
 left:Int
noncomputable def Q3 (Yf:(Zh→Ze→Int→Option (Int×Zh))) (Ye:(Zh→Ze→Int→Option (Int×Zh))) (Yg:(Zh→Ze→Int→Option (Int×Zh))) (a0:Zh) (a1:Ze) (a2:Int):Option (Int×Zh) :=
 ((Za6 a1).bind fun y6=>cond (decide (a2 < y6)) (some true) ((Gf a1).bind fun y7=>some (cond (decide (a2 < y6)) true (decide (a0.left < y7))))).bind fun (z3:Bool)=>cond z3 (some (3,a0)) ((Gf a1).bind fun y10=>(Yk a1).bind fun y12=>(cond (y12 == 1) (some (y12 == 1)) (some (y12 == 8))).bind fun (z13:Bool)=>cond z13 ((Ye (⟨(IntKind.i64.wrap (a0.left - y10))⟩:Zh) a1 (IntKind.i64.wrap (a2 - 1))).bind fun y16=>some (y16.1,y16.2)) (cond (y12 == 9) ((Yg (⟨(IntKind.i64.wrap (a0.left - y10))⟩:Zh) a1 (IntKind.i64.wrap (a2 - 1))).bind fun y18=>some (y18.1,y18.2)) (some (0,(⟨(IntKind.i64.wrap (a0.left - y10))⟩:Zh)))))
noncomputable def Ji (Yf:(Zh→Ze→Int→Option (Int×Zh))) (a1:Ze) (a2:Int) (y2:Int) (s0_:(Int×Int)):Option ((Int×Int) ⊕ ((Int×Int) ⊕ Int)) :=
 cond (decide (s0_.1 < y2)) ((Jl a1 s0_.1).bind fun y4=>cond (y4.2 != 0) (some (.inr (.inl (y4.2,s0_.2)))) ((Yf (⟨s0_.2⟩:Zh) y4.1 a2).bind fun y6=>cond (y6.1 != 0) (some (.inr (.inl (y6.1,y6.2.left)))) (some (.inl ((IntKind.i64.wrap (s0_.1+1)),y6.2.left))))) (some (.inr (.inr s0_.2)))
noncomputable def Jh (Yf:(Zh→Ze→Int→Option (Int×Zh))) (Ye:(Zh→Ze→Int→Option (Int×Zh))) (Yg:(Zh→Ze→Int→Option (Int×Zh))) (a0:Zh) (a1:Ze) (a2:Int):Option (Int×Zh) :=
 (Yt a1).bind fun y2=>(Z8 (Ji Yf a1 a2 y2) (0,a0.left)).bind fun (z10:((Int×Int) ⊕ Int))=>match z10 with | .inl z10=>some (z10.1,(⟨z10.2⟩:Zh)) | .inr z10=>some (0,(⟨z10⟩:Zh))
noncomputable def Qh (Ye:(Zh→Ze→Int→Option (Int×Zh))) (a1:Ze) (a2:Int) (y2:Int) (s0_:(Int×Int)):Option ((Int×Int) ⊕ ((Int×Int) ⊕ Int)) :=
 cond (decide (s0_.1 < y2)) ((Jl a1 s0_.1).bind fun y4=>cond (y4.2 != 0) (some (.inr (.inl (y4.2,s0_.2)))) ((Ye (⟨s0_.2⟩:Zh) y4.1 (IntKind.i64.wrap (a2 - 1))).bind fun y6=>cond (y6.1 != 0) (some (.inr (.inl (y6.1,y6.2.left)))) (some (.inl ((IntKind.i64.wrap (s0_.1+1)),y6.2.left))))) (some (.inr (.inr s0_.2)))
noncomputable def X7 (Yf:(Zh→Ze→Int→Option (Int×Zh))) (Ye:(Zh→Ze→Int→Option (Int×Zh))) (Yg:(Zh→Ze→Int→Option (Int×Zh))) (a0:Zh) (a1:Ze) (a2:Int):Option (Int×Zh) :=
 (Yt a1).bind fun y2=>(Z8 (Qh Ye a1 a2 y2) (0,a0.left)).bind fun (z10:((Int×Int) ⊕ Int))=>match z10 with | .inl z10=>some (z10.1,(⟨z10.2⟩:Zh)) | .inr z10=>some (0,(⟨z10⟩:Zh))
noncomputable def Zt:Nat→((Zh→Ze→Int→Option (Int×Zh))×(Zh→Ze→Int→Option (Int×Zh))×(Zh→Ze→Int→Option (Int×Zh)))
 | 0=>((fun _ _ _=>none),(fun _ _ _=>none),(fun _ _ _=>none))
 | k+1=>(Q3 ((Zt k).1) ((Zt k).2.1) ((Zt k).2.2),Jh ((Zt k).1) ((Zt k).2.1) ((Zt k).2.2),X7 ((Zt k).1) ((Zt k).2.1) ((Zt k).2.2))
noncomputable def Zal (a0:Zh) (a1:Ze) (a2:Int):Option (Int×Zh):=lim fun k=>(Zt k).1 a0 a1 a2
noncomputable def Zbu (a0:(Option Zm)) (a1:Ym):Option (Int×Int) :=
 (Zdg a1).bind fun y2=>(Zae a0).bind fun y4=>cond (y4.2 != 0) (some (0,y4.2)) ((Zal (⟨y2.Weight⟩:Zh) y4.1 y2.Depth).bind fun y6=>cond (y6.1 != 0) (some (0,y6.1)) (some ((IntKind.i64.wrap (y2.Weight - y6.2.left)),0)))
noncomputable def G0 (a0:Ze):Option Int :=
 (Yk a0).bind fun y2=>cond (y2 == 0) (some 0) (cond (y2 == 1) ((Qn a0).bind fun y5=>(Yt a0).bind fun y6=>some (IntKind.i64.wrap ((IntKind.i64.wrap (1+y5))+y6))) (cond (y2 == 8) ((Yt a0).bind fun y8=>some (IntKind.i64.wrap (1+y8))) (some 1)))
noncomputable def Za5 (a0:Ze):Option Bool :=
 ((Yk a0).bind fun y8=>cond (y8 == 1) (some true) ((Yk a0).bind fun y9=>(Za3 y9).bind fun y10=>some (cond (y8 == 1) true y10))).bind fun (z4:Bool)=>some z4
noncomputable def Zg0 (a0:(List Int)) (a1:Int) (a2:Int):Option Int :=
 (Qt a1).bind fun y2=>cond (cond (y2.1 == 0) true (decide (a2 < 0))) (some 0) ((Ja (y2.1≠0)).bind fun u4=>(Ja ((IntKind.i64.wrap (Int.tdiv 64 y2.1))≠0)).bind fun u6=>cond (decide ((a0.length:Int)≤(IntKind.i64.wrap (Int.tdiv a2 (IntKind.i64.wrap (Int.tdiv 64 y2.1)))))) (some 0) ((Ja ((IntKind.i64.wrap (Int.tdiv 64 y2.1))≠0)).bind fun u12=>(Z6 a0 (IntKind.i64.wrap (Int.tdiv a2 (IntKind.i64.wrap (Int.tdiv 64 y2.1))))).bind fun x13=>(Ja ((IntKind.i64.wrap (Int.tdiv 64 y2.1))≠0)).bind fun u14=>(Ja (0≤(IntKind.i64.wrap ((Int.tmod a2 (IntKind.i64.wrap (Int.tdiv 64 y2.1))) * y2.1)))).bind fun u15=>(Ja (0≤y2.1)).bind fun u16=>some (IntKind.u64.wrap (Zaz .u64 (Int.fdiv x13 (2 ^ min (Int.toNat (IntKind.i64.wrap ((Int.tmod a2 (IntKind.i64.wrap (Int.tdiv 64 y2.1))) * y2.1))) 64)) (IntKind.u64.wrap ((IntKind.u64.wrap (1 * 2 ^ min (Int.toNat y2.1) 64)) - 1))))))
noncomputable def K9 (a0:Ze):Option Int :=
 (Qt a0.code).bind fun y2=>cond (y2.1 == 0) (some 0) ((Ja (y2.1≠0)).bind fun u4=>(Ja ((IntKind.i64.wrap (Int.tdiv 64 y2.1))≠0)).bind fun u7=>(X3 a0.a a0.segment (IntKind.i64.wrap (a0.at_+(IntKind.i64.wrap (Int.tdiv a0.index (IntKind.i64.wrap (Int.tdiv 64 y2.1))))))).bind fun y8=>(Ja ((IntKind.i64.wrap (Int.tdiv 64 y2.1))≠0)).bind fun u11=>(Zg0 ([y8.1]:List Int) a0.code (Int.tmod a0.index (IntKind.i64.wrap (Int.tdiv 64 y2.1)))).bind fun y12=>some y12)
noncomputable def Um (a0:Ze) (a1:Int):Option Int :=
 (cond (decide (a1 < 0)) (some true) ((Qn a0).bind fun y4=>some (cond (decide (a1 < 0)) true (decide (y4≤a1))))).bind fun (z2:Bool)=>cond z2 (some 0) (cond (a0.kind == 10) ((K9 a0).bind fun y7=>some y7) ((X3 a0.a a0.segment (IntKind.i64.wrap (a0.at_+a1))).bind fun y9=>some y9.1))
structure Zv where
 left:Int
noncomputable def Y2 (a1:Ze) (y12:Int) (s0_:(Int×(List Int))):Option ((Int×(List Int)) ⊕ (List Int)) :=
 cond (decide (s0_.1 < y12)) ((Um a1 s0_.1).bind fun y13=>(Zhk 8 s0_.2 ([y13]:List Int)).bind fun l14=>some (.inl ((IntKind.i64.wrap (s0_.1+1)),l14))) (some (.inr s0_.2))
noncomputable def Yw (Qb:(Zv→Ze→Int→Option (Zd×Int×Zv))) (a1:Ze) (a2:Int) (y18:Int) (s1_:(Int×(List Zd)×Int)):Option ((Int×(List Zd)×Int) ⊕ ((Int×Int) ⊕ ((List Zd)×Int))) :=
 cond (decide (s1_.1 < y18)) ((Jl a1 s1_.1).bind fun y20=>cond (y20.2 != 0) (some (.inr (.inl (y20.2,s1_.2.2)))) ((Qb (⟨s1_.2.2⟩:Zv) y20.1 (IntKind.i64.wrap (a2 - 1))).bind fun y22=>cond (y22.2.1 != 0) (some (.inr (.inl (y22.2.1,y22.2.2.left)))) ((Zhk 56 s1_.2.1 ([y22.1]:List Zd)).bind fun l23=>some (.inl ((IntKind.i64.wrap (s1_.1+1)),l23,y22.2.2.left))))) (some (.inr (.inr (s1_.2.1,s1_.2.2))))
noncomputable def Y6 (Qb:(Zv→Ze→Int→Option (Zd×Int×Zv))) (a0:Zv) (a1:Ze) (a2:Int):Option (Zd×Int×Zv) :=
 (G0 a1).bind fun y2=>(cond (decide ((IntKind.i64.wrap (a0.left - y2)) < 0)) (some true) (cond (a2 == 0) ((Za5 a1).bind fun y6=>some (cond (decide ((IntKind.i64.wrap (a0.left - y2)) < 0)) true (cond (a2 == 0) y6 false))) (some (cond (decide ((IntKind.i64.wrap (a0.left - y2)) < 0)) true false)))).bind fun (z4:Bool)=>cond z4 (some ((⟨0,[],[]⟩:Zd),3,(⟨(IntKind.i64.wrap (a0.left - y2))⟩:Zv))) ((Yk a1).bind fun y10=>(Qn a1).bind fun y12=>(Z8 (Y2 a1 y12) (0,([]:List Int))).bind fun (z16:(List Int))=>(Yt a1).bind fun y18=>(Z8 (Yw Qb a1 a2 y18) (0,([]:List Zd),(IntKind.i64.wrap (a0.left - y2)))).bind fun (z27:((Int×Int) ⊕ ((List Zd)×Int)))=>match z27 with | .inl z27=>some ((⟨0,[],[]⟩:Zd),z27.1,(⟨z27.2⟩:Zv)) | .inr z27=>some ((⟨y10,z16,z27.1⟩:Zd),0,(⟨z27.2⟩:Zv)))
noncomputable def Yc:Nat→(Zv→Ze→Int→Option (Zd×Int×Zv))
 | 0=>(fun _ _ _=>none)
 | k+1=>Y6 ((Yc k))
noncomputable def Ge (a0:Zv) (a1:Ze) (a2:Int):Option (Zd×Int×Zv):=lim fun k=>(Yc k) a0 a1 a2
noncomputable def Za4 (a0:Ze):Option (Zd×Int) :=
 (Ge (⟨65536⟩:Zv) a0 64).bind fun y2=>some (y2.1,y2.2.1)
noncomputable def Gd (a0:(Option Zm)) (a1:Ym):Option (Zd×Int) :=
 (Zbu a0 a1).bind fun y2=>cond (y2.2 != 0) (some ((⟨0,[],[]⟩:Zd),y2.2)) ((Zae a0).bind fun y4=>cond (y4.2 != 0) (some ((⟨0,[],[]⟩:Zd),y4.2)) ((Za4 y4.1).bind fun y6=>(Zll y6.1).bind fun y8=>some (y8,y6.2)))
noncomputable def Ju (J3:(Zd→Option Zd)) (a0:Zd) (y2:(Int×Int)) (s0_:(Int×(List Zd))):Option ((Int×(List Zd)) ⊕ (List Zd)) :=
 cond (decide (s0_.1 < (a0.Kids.length:Int))) ((Z6 a0.Kids s0_.1).bind fun x5=>(J3 x5).bind fun y6=>(cond (a0.Kind == 9) ((Zhk 8 ([]:List Int) y6.Words).bind fun l11=>(Ja (0≤(IntKind.i64.wrap (y2.1 - (y6.Words.length:Int))))).bind fun u12=>(Zhk 8 l11 (List.replicate (Int.toNat (IntKind.i64.wrap (y2.1 - (y6.Words.length:Int)))) (0:Int))).bind fun l13=>(Zhk 56 ([]:List Zd) y6.Kids).bind fun l14=>(Ja (0≤(IntKind.i64.wrap (y2.2 - (y6.Kids.length:Int))))).bind fun u15=>(Zhk 56 l14 (List.replicate (Int.toNat (IntKind.i64.wrap (y2.2 - (y6.Kids.length:Int)))) (⟨(0:Int),[],[]⟩:Zd))).bind fun l16=>some (l13,l16)) (some (y6.Words,y6.Kids))).bind fun (z7:((List Int)×(List Zd)))=>(Zhk 56 s0_.2 ([(⟨y6.Kind,z7.1,z7.2⟩:Zd)]:List Zd)).bind fun l18=>some (.inl ((IntKind.i64.wrap (s0_.1+1)),l18))) (some (.inr s0_.2))
noncomputable def K7 (J3:(Zd→Option Zd)) (a0:Zd):Option Zd :=
 (Vx a0).bind fun y2=>(Z8 (Ju J3 a0 y2) (0,([]:List Zd))).bind fun (z20:(List Zd))=>some (⟨a0.Kind,a0.Words,z20⟩:Zd)
noncomputable def Qk:Nat→(Zd→Option Zd)
 | 0=>(fun _=>none)
 | k+1=>K7 ((Qk k))
noncomputable def Zbn (a0:Zd):Option Zd:=lim fun k=>(Qk k) a0
noncomputable def Xs (J4:(Zd→Option Int)) (a0:Zd) (s0_:(Int×Int)):Option ((Int×Int) ⊕ Int) :=
 cond (decide (s0_.2 < (a0.Kids.length:Int))) (((Z6 a0.Kids s0_.2).bind fun x6=>(J4 x6).bind fun y7=>cond (cond (a0.Kind == 1) true (a0.Kind == 8)) (some (IntKind.i64.wrap ((IntKind.i64.wrap (s0_.1+y7))+1))) (some (IntKind.i64.wrap (s0_.1+y7)))).bind fun (z3:Int)=>some (.inl (z3,(IntKind.i64.wrap (s0_.2+1))))) (some (.inr s0_.1))
noncomputable def K8 (J4:(Zd→Option Int)) (a0:Zd):Option Int :=
 cond (a0.Kind == 0) (some 0) ((cond (a0.Kind == 1) (some (IntKind.i64.wrap (1+(a0.Words.length:Int)))) (some 1)).bind fun (z1:Int)=>(Z8 (Xs J4 a0) (z1,0)).bind fun (z10:Int)=>some z10)
noncomputable def Xp:Nat→(Zd→Option Int)
 | 0=>(fun _=>none)
 | k+1=>K8 ((Xp k))
noncomputable def Zbo (a0:Zd):Option Int:=lim fun k=>(Xp k) a0
noncomputable def Ko (K2:(Zd→Zd→Option Bool)) (a0:Zd) (a1:Zd) (s0_:Int):Option (Int ⊕ (Unit ⊕ Unit)) :=
 cond (decide (s0_ < (a0.Kids.length:Int))) ((Z6 a0.Kids s0_).bind fun x9=>(Z6 a1.Kids s0_).bind fun x10=>(K2 x9 x10).bind fun y11=>cond (!y11) (some (.inr (.inl ()))) (some (.inl (IntKind.i64.wrap (s0_+1))))) (some (.inr (.inr ())))
noncomputable def Uf (K2:(Zd→Zd→Option Bool)) (a0:Zd) (a1:Zd):Option Bool :=
 (cond (a0.Kind != a1.Kind) (some true) ((Q2 a0.Words a1.Words).bind fun y4=>some (cond (cond (a0.Kind != a1.Kind) true (!y4)) true ((a0.Kids.length:Int) != (a1.Kids.length:Int))))).bind fun (z2:Bool)=>cond z2 (some false) ((Z8 (Ko K2 a0 a1) 0).bind fun (z14:(Unit ⊕ Unit))=>match z14 with | .inl z14=>some false | .inr z14=>some true)
noncomputable def Jf:Nat→(Zd→Zd→Option Bool)
 | 0=>(fun _ _=>none)
 | k+1=>Uf ((Jf k))
noncomputable def Zda (a0:Zd) (a1:Zd):Option Bool:=lim fun k=>(Jf k) a0 a1
def Zo (x:Zm):List G:=[.sl x.segments.length (fl (eL (eI .u64)) x.segments),.val (.int .i64 x.size),.val (.int .i64 x.left)]
theorem K0:∀ x,G.pures ((eI .u64) x)=true:=fun x=>by simp [eI,eB,eS,eL,eP,G.pures,G.pure,Ys,Gu]
theorem Zba {O O':Objs} {n:Nat} (xs:List Int):Vh O O' n (fl (eI .u64) xs) (fl (eI .u64) xs):=Vc (Ys K0 xs)
theorem Zex {O O':Objs} {n:Nat} (xs:List Int) (b b':List G):Vh O O' n (fl (eI .u64) xs++b) (fl (eI .u64) xs++b')=Vh O O' n b b':=Zfh b b' _ (Ys K0 xs)
theorem Zea (xs:List Int):(fl (eI .u64) xs).length=xs.length * 1:=Ke (f:=(eI .u64)) (k:=1) (fun _=>rfl) xs
theorem Zee (xs:List Int):(fl (eI .u64) xs).all G.one=true:=Gn (fun x=>by simp [eI,eB,eS,eL,eP,Zef,G.one,Value.oneCell']) xs
theorem Ze0 {O O':Objs} {n:Nat} (x:Option Int):wk O O' n (gP (eI .u64) x) (gP (eI .u64) x)=True:=Zv2 K0 x
theorem Zcs {k:Nat} (x:Option Int):(gP (eI .u64) x).under k=true:=Zfe K0 k x
theorem Zcq {ρ:Nat→Nat} (xs:List Int):G.rens ρ (fl (eI .u64) xs)=fl (eI .u64) xs:=Vl ρ _ (Ys K0 xs)
theorem Zco {ρ:Nat→Nat} (x:Option Int):(gP (eI .u64) x).ren ρ=gP (eI .u64) x:=Zdj ρ _ (Gu K0 x)
theorem V5 {k:Nat} (xs:List Int):G.unders k (fl (eI .u64) xs)=true:=X5 _ _ (Ys K0 xs)
theorem Je:∀ x,G.pures ((eL (eI .u64)) x)=true:=fun x=>by simp [eI,eB,eS,eL,eP,G.pures,G.pure,Ys,Gu,K0]
theorem Zaj {O O':Objs} {n:Nat} (xs:List (List Int)):Vh O O' n (fl (eL (eI .u64)) xs) (fl (eL (eI .u64)) xs):=Vc (Ys Je xs)
theorem Zai {O O':Objs} {n:Nat} (xs:List (List Int)) (b b':List G):Vh O O' n (fl (eL (eI .u64)) xs++b) (fl (eL (eI .u64)) xs++b')=Vh O O' n b b':=Zfh b b' _ (Ys Je xs)
theorem Zab (xs:List (List Int)):(fl (eL (eI .u64)) xs).length=xs.length * 1:=Ke (f:=(eL (eI .u64))) (k:=1) (fun _=>rfl) xs
theorem Zag (xs:List (List Int)):(fl (eL (eI .u64)) xs).all G.one=true:=Gn (fun x=>by simp [eI,eB,eS,eL,eP,Zef,G.one,Value.oneCell']) xs
theorem Zak {O O':Objs} {n:Nat} (x:Option (List Int)):wk O O' n (gP (eL (eI .u64)) x) (gP (eL (eI .u64)) x)=True:=Zv2 Je x
theorem Gj {k:Nat} (x:Option (List Int)):(gP (eL (eI .u64)) x).under k=true:=Zfe Je k x
theorem Gi {ρ:Nat→Nat} (xs:List (List Int)):G.rens ρ (fl (eL (eI .u64)) xs)=fl (eL (eI .u64)) xs:=Vl ρ _ (Ys Je xs)
theorem Gh {ρ:Nat→Nat} (x:Option (List Int)):(gP (eL (eI .u64)) x).ren ρ=gP (eL (eI .u64)) x:=Zdj ρ _ (Gu Je x)
theorem Zah {k:Nat} (xs:List (List Int)):G.unders k (fl (eL (eI .u64)) xs)=true:=X5 _ _ (Ys Je xs)
theorem Y3:∀ x,G.pures (Zo x)=true:=fun x=>by simp [eI,eB,eS,eL,eP,G.pures,G.pure,Ys,Gu,Zo,K0,Je]
theorem J7 {O O':Objs} {n:Nat} (xs:List Zm):Vh O O' n (fl Zo xs) (fl Zo xs):=Vc (Ys Y3 xs)
theorem J6 {O O':Objs} {n:Nat} (xs:List Zm) (b b':List G):Vh O O' n (fl Zo xs++b) (fl Zo xs++b')=Vh O O' n b b':=Zfh b b' _ (Ys Y3 xs)
theorem Jz (xs:List Zm):(fl Zo xs).length=xs.length * 3:=Ke (f:=Zo) (k:=3) (fun _=>rfl) xs
theorem J0 (xs:List Zm):(fl Zo xs).all G.one=true:=Gn (fun x=>by simp [eI,eB,eS,eL,eP,Zef,G.one,Value.oneCell',Zo]) xs
theorem J8 {O O':Objs} {n:Nat} (x:Option Zm):wk O O' n (gP Zo x) (gP Zo x)=True:=Zv2 Y3 x
theorem Jp {k:Nat} (x:Option Zm):(gP Zo x).under k=true:=Zfe Y3 k x
theorem Jo {ρ:Nat→Nat} (xs:List Zm):G.rens ρ (fl Zo xs)=fl Zo xs:=Vl ρ _ (Ys Y3 xs)
theorem Jn {ρ:Nat→Nat} (x:Option Zm):(gP Zo x).ren ρ=gP Zo x:=Zdj ρ _ (Gu Y3 x)
theorem J5 {k:Nat} (xs:List Zm):G.unders k (fl Zo xs)=true:=X5 _ _ (Ys Y3 xs)
mutual
def Ur:Zd→List G
 | ⟨f0,f1,f2⟩=>[.val (.int .i64 f0),.sl f1.length (fl (eI .u64) f1),.sl f2.length (Us f2)]
def Us:List Zd→List G
 | []=>[]
 | x::xs=>Ur x++Us xs
end
theorem Zim:∀ xs,Us xs=fl Ur xs
 | []=>by simp [Us,fl]
 | x::xs=>by rw [Us,V7,Zim xs]
def Zi (x:Zd):List G:=[.val (.int .i64 x.Kind),.sl x.Words.length (fl (eI .u64) x.Words),.sl x.Kids.length (fl Ur x.Kids)]
theorem Y1:Ur=Zi:=by
 funext x
 obtain ⟨_,_,_⟩:=x
 simp only [Ur,Zim,Zi,List.cons_append,List.nil_append,List.append_nil]
mutual
theorem Zlx:∀ x,G.pures (Ur x)=true
 | ⟨f0,f1,f2⟩=>by simp [Ur,eP,Gu,eI,eB,eS,eL,G.pures,G.pure,Znl,Ys,Zk3 f2,K0,Je,Y3]
theorem Zk3:∀ xs,G.pures (Us xs)=true
 | []=>rfl
 | x::xs=>by simp [Us,Znl,Zlx x,Zk3 xs]
end
theorem Qp:∀ x,G.pures (Zi x)=true:=fun x=>by rw [← Y1];exact Zlx x
theorem Vo {O O':Objs} {n:Nat} (xs:List Zd):Vh O O' n (fl Zi xs) (fl Zi xs):=Vc (Ys Qp xs)
theorem Vn {O O':Objs} {n:Nat} (xs:List Zd) (b b':List G):Vh O O' n (fl Zi xs++b) (fl Zi xs++b')=Vh O O' n b b':=Zfh b b' _ (Ys Qp xs)
theorem Vi (xs:List Zd):(fl Zi xs).length=xs.length * 3:=Ke (f:=Zi) (k:=3) (fun _=>rfl) xs
theorem Vk (xs:List Zd):(fl Zi xs).all G.one=true:=Gn (fun x=>by simp [eI,eB,eS,eL,eP,Zef,G.one,Value.oneCell',Zi]) xs
theorem Vp {O O':Objs} {n:Nat} (x:Option Zd):wk O O' n (gP Zi x) (gP Zi x)=True:=Zv2 Qp x
theorem K6 {k:Nat} (x:Option Zd):(gP Zi x).under k=true:=Zfe Qp k x
theorem K4 {ρ:Nat→Nat} (xs:List Zd):G.rens ρ (fl Zi xs)=fl Zi xs:=Vl ρ _ (Ys Qp xs)
theorem K3 {ρ:Nat→Nat} (x:Option Zd):(gP Zi x).ren ρ=gP Zi x:=Zdj ρ _ (Gu Qp x)
theorem Vm {k:Nat} (xs:List Zd):G.unders k (fl Zi xs)=true:=X5 _ _ (Ys Qp xs)
theorem Zbj:∀ x,G.pures ((eI .i64) x)=true:=fun x=>by simp [eI,eB,eS,eL,eP,G.pures,G.pure,Ys,Gu,K0,Je,Y3,Qp,Y1]
theorem Zey {O O':Objs} {n:Nat} (xs:List Int):Vh O O' n (fl (eI .i64) xs) (fl (eI .i64) xs):=Vc (Ys Zbj xs)
theorem Zew {O O':Objs} {n:Nat} (xs:List Int) (b b':List G):Vh O O' n (fl (eI .i64) xs++b) (fl (eI .i64) xs++b')=Vh O O' n b b':=Zfh b b' _ (Ys Zbj xs)
theorem Zd9 (xs:List Int):(fl (eI .i64) xs).length=xs.length * 1:=Ke (f:=(eI .i64)) (k:=1) (fun _=>rfl) xs
theorem Zed (xs:List Int):(fl (eI .i64) xs).all G.one=true:=Gn (fun x=>by simp [eI,eB,eS,eL,eP,Zef,G.one,Value.oneCell']) xs
theorem Zez {O O':Objs} {n:Nat} (x:Option Int):wk O O' n (gP (eI .i64) x) (gP (eI .i64) x)=True:=Zv2 Zbj x
theorem Zcr {k:Nat} (x:Option Int):(gP (eI .i64) x).under k=true:=Zfe Zbj k x
theorem Zcp {ρ:Nat→Nat} (xs:List Int):G.rens ρ (fl (eI .i64) xs)=fl (eI .i64) xs:=Vl ρ _ (Ys Zbj xs)
theorem Zcn {ρ:Nat→Nat} (x:Option Int):(gP (eI .i64) x).ren ρ=gP (eI .i64) x:=Zdj ρ _ (Gu Zbj x)
theorem Zev {k:Nat} (xs:List Int):G.unders k (fl (eI .i64) xs)=true:=X5 _ _ (Ys Zbj xs)
def Zca (x:Zx):List G:=[.val (.int .i64 x.Kind),.val (.int .i64 x.Off),.val (.int .i64 x.Data),.val (.int .i64 x.Ptrs),.val (.int .i64 x.Code),.val (.int .i64 x.Count),.val (.int .i64 x.Segment),.val (.bool x.Double)]
def U7 (x:Ym):List G:=[.val (.int .i64 x.Depth),.val (.int .i64 x.Weight),.val (.int .i64 x.MaxD),.val (.int .i64 x.MaxOut)]
def Zb9 (x:Xb):List G:=[.val (.int .i64 x.P.Kind),.val (.int .i64 x.P.Off),.val (.int .i64 x.P.Data),.val (.int .i64 x.P.Ptrs),.val (.int .i64 x.P.Code),.val (.int .i64 x.P.Count),.val (.int .i64 x.P.Segment),.val (.bool x.P.Double),.val (.int .i64 x.Segment),.val (.int .i64 x.At)]
def U8 (x:Ze):List G:=[(gP Zo x.a),.val (.int .i64 x.kind),.val (.int .i64 x.segment),.val (.int .i64 x.at_),.val (.int .i64 x.words),.val (.int .i64 x.ptrs),.val (.int .i64 x.count),.val (.int .i64 x.code),.val (.int .i64 x.index)]
def Z7 (x:Zh):List G:=[.val (.int .i64 x.left)]
theorem Xq:∀ x,G.pures (Z7 x)=true:=fun x=>by simp [eI,eB,eS,eL,eP,G.pures,G.pure,Ys,Gu,Z7,K0,Je,Y3,Qp,Zbj,Y1]
theorem Q8 {O O':Objs} {n:Nat} (xs:List Zh):Vh O O' n (fl Z7 xs) (fl Z7 xs):=Vc (Ys Xq xs)
theorem Q7 {O O':Objs} {n:Nat} (xs:List Zh) (b b':List G):Vh O O' n (fl Z7 xs++b) (fl Z7 xs++b')=Vh O O' n b b':=Zfh b b' _ (Ys Xq xs)
theorem Q4 (xs:List Zh):(fl Z7 xs).length=xs.length * 1:=Ke (f:=Z7) (k:=1) (fun _=>rfl) xs
theorem Q5 (xs:List Zh):(fl Z7 xs).all G.one=true:=Gn (fun x=>by simp [eI,eB,eS,eL,eP,Zef,G.one,Value.oneCell',Z7]) xs
theorem Q9 {O O':Objs} {n:Nat} (x:Option Zh):wk O O' n (gP Z7 x) (gP Z7 x)=True:=Zv2 Xq x
theorem Qx {k:Nat} (x:Option Zh):(gP Z7 x).under k=true:=Zfe Xq k x
theorem Qv {ρ:Nat→Nat} (xs:List Zh):G.rens ρ (fl Z7 xs)=fl Z7 xs:=Vl ρ _ (Ys Xq xs)
theorem Qu {ρ:Nat→Nat} (x:Option Zh):(gP Z7 x).ren ρ=gP Z7 x:=Zdj ρ _ (Gu Xq x)
theorem Q6 {k:Nat} (xs:List Zh):G.unders k (fl Z7 xs)=true:=X5 _ _ (Ys Xq xs)
def Z4 (x:Zv):List G:=[.val (.int .i64 x.left)]
theorem Xt:∀ x,G.pures (Z4 x)=true:=fun x=>by simp [eI,eB,eS,eL,eP,G.pures,G.pure,Ys,Gu,Z4,K0,Je,Y3,Qp,Zbj,Xq,Y1]
theorem Qe {O O':Objs} {n:Nat} (xs:List Zv):Vh O O' n (fl Z4 xs) (fl Z4 xs):=Vc (Ys Xt xs)
theorem Qd {O O':Objs} {n:Nat} (xs:List Zv) (b b':List G):Vh O O' n (fl Z4 xs++b) (fl Z4 xs++b')=Vh O O' n b b':=Zfh b b' _ (Ys Xt xs)
theorem X9 (xs:List Zv):(fl Z4 xs).length=xs.length * 1:=Ke (f:=Z4) (k:=1) (fun _=>rfl) xs
theorem Qa (xs:List Zv):(fl Z4 xs).all G.one=true:=Gn (fun x=>by simp [eI,eB,eS,eL,eP,Zef,G.one,Value.oneCell',Z4]) xs
theorem Qf {O O':Objs} {n:Nat} (x:Option Zv):wk O O' n (gP Z4 x) (gP Z4 x)=True:=Zv2 Xt x
theorem Xy {k:Nat} (x:Option Zv):(gP Z4 x).under k=true:=Zfe Xt k x
theorem Xx {ρ:Nat→Nat} (xs:List Zv):G.rens ρ (fl Z4 xs)=fl Z4 xs:=Vl ρ _ (Ys Xt xs)
theorem Xw {ρ:Nat→Nat} (x:Option Zv):(gP Z4 x).ren ρ=gP Z4 x:=Zdj ρ _ (Gu Xt x)
theorem Qc {k:Nat} (xs:List Zv):G.unders k (fl Z4 xs)=true:=X5 _ _ (Ys Xt xs)
def Qi (x:Xb):List G:=[.val (.int .i64 x.P.Kind),.val (.int .i64 x.P.Off),.val (.int .i64 x.P.Data),.val (.int .i64 x.P.Ptrs),.val (.int .i64 x.P.Code),.val (.int .i64 x.P.Count),.val (.int .i64 x.P.Segment),.val (.bool x.P.Double),.val (.int .i64 x.Segment),.val (.int .i64 x.At)]
def Zn (x:Ze):List G:=[(gP Zo x.a),.val (.int .i64 x.kind),.val (.int .i64 x.segment),.val (.int .i64 x.at_),.val (.int .i64 x.words),.val (.int .i64 x.ptrs),.val (.int .i64 x.count),.val (.int .i64 x.code),.val (.int .i64 x.index)]
def Yb (x:Zx):List G:=[.val (.int .i64 x.Kind),.val (.int .i64 x.Off),.val (.int .i64 x.Data),.val (.int .i64 x.Ptrs),.val (.int .i64 x.Code),.val (.int .i64 x.Count),.val (.int .i64 x.Segment),.val (.bool x.Double)]
def Zf (x:Zd):List G:=[.val (.int .i64 x.Kind),.sl x.Words.length (fl (eI .u64) x.Words),.sl x.Kids.length (fl Zi x.Kids)]
def Xm (x:Ym):List G:=[.val (.int .i64 x.Depth),.val (.int .i64 x.Weight),.val (.int .i64 x.MaxD),.val (.int .i64 x.MaxOut)]
end Go.Proofs.Ytbkhdkfjabiocaa
