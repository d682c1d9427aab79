/- Part UD of this seat's mirrors: functions of the seat's program, and the plain functions that they are; each theorem bears its own conditions. -/
import Derived.Test.YtaddaloondpnkaaH26
namespace Go.Proofs.Ytaddaloondpnkaa
open Go.RowKit
set_option linter.unusedVariables false
set_option linter.unusedSimpArgs false
set_option maxRecDepth 100000
set_option maxHeartbeats 4000000
structure Yg where
 segments:(List (List Int))
 size:Int
 left:Int
noncomputable def Zqf (a0:Int) (a1:Int):Option Yg :=
 some (⟨([]:(List (List Int))),(if a0 < 1 then 1 else a0),(if 131072 < (if a1 < 0 then 0 else a1) then 131072 else (if a1 < 0 then 0 else a1))⟩:Yg)
structure Zmk where
 L:(List (List Int))
 Size:Int
 Most:Int
 Used:Int
noncomputable def Ud (a0:(Option Yg)):Option Int :=
 cond (Option.isNone a0) (some 0) ((a0).bind fun x4=>some (x4.segments.length:Int))
noncomputable def Xa (a0:List Int):Option (List Int) :=
 Zkp 8 ([]:List Int) a0
noncomputable def Gf (a0:(List (List Int))) (s0_:(Int×(List (List Int)))):Option ((Int×(List (List Int))) ⊕ (List (List Int))) :=
 cond (decide (s0_.1 < (a0.length:Int))) ((Zx a0 s0_.1).bind fun x4=>(Xa x4).bind fun y5=>(Zx s0_.2 s0_.1).bind fun x6=>some (.inl ((IntKind.i64.wrap (s0_.1+1)),(Z9 s0_.2 s0_.1 y5)))) (some (.inr s0_.2))
noncomputable def V7 (a0:(List (List Int))):Option (List (List Int)) :=
 (Zdw 24 (a0.length:Int) ([]:(List Int))).bind fun l2=>(Zz (Gf a0) (0,l2)).bind fun (z9:(List (List Int)))=>some z9
noncomputable def Qm (a0:(Option Yg)) (a1:Int):Option Bool :=
 (cond (decide (0≤a1)) ((Ud a0).bind fun y4=>some (cond (decide (0≤a1)) (decide (a1 < y4)) false)) (some false)).bind fun (z2:Bool)=>some z2
noncomputable def Jz (a0:(Option Yg)) (a1:Int):Option Int :=
 (Qm a0 a1).bind fun y2=>cond (!y2) (some 0) ((a0).bind fun x5=>(Zx x5.segments a1).bind fun x6=>some (x6.length:Int))
noncomputable def Uc (a0:(Option Yg)) (a1:Int) (a2:Int) (a3:Int):Option Bool :=
 ((Qm a0 a1).bind fun y8=>cond y8 (cond (decide (0≤a2)) (cond (decide (0≤a3)) ((Jz a0 a1).bind fun y9=>cond (decide (a3≤y9)) ((Jz a0 a1).bind fun y10=>some (cond (cond (cond (cond y8 (decide (0≤a2)) false) (decide (0≤a3)) false) (decide (a3≤y9)) false) (decide (a2≤(IntKind.i64.wrap (y10 - a3)))) false)) (some false)) (some false)) (some false)) (some false)).bind fun (z4:Bool)=>some z4
noncomputable def Kl (a0:(List Int)) (a1:(List Int)) (s0_:Int):Option (Int ⊕ (Unit ⊕ Unit)) :=
 cond (decide (s0_ < (a0.length:Int))) ((Zx a0 s0_).bind fun x3=>(Zx a1 s0_).bind fun x4=>cond (x3 != x4) (some (.inr (.inl ()))) (some (.inl (IntKind.i64.wrap (s0_+1))))) (some (.inr (.inr ())))
noncomputable def Kk (a0:(List Int)) (a1:(List Int)):Option Bool :=
 cond ((a0.length:Int) != (a1.length:Int)) (some false) ((Zz (Kl a0 a1) 0).bind fun (z7:(Unit ⊕ Unit))=>match z7 with | .inl z7=>some false | .inr z7=>some true)
noncomputable def Km (a0:(List (List Int))) (a1:(List (List Int))) (s0_:Int):Option (Int ⊕ (Unit ⊕ Unit)) :=
 cond (decide (s0_ < (a0.length:Int))) ((Zx a0 s0_).bind fun x4=>(Zx a1 s0_).bind fun x5=>(Kk x4 x5).bind fun y6=>cond (!y6) (some (.inr (.inl ()))) (some (.inl (IntKind.i64.wrap (s0_+1))))) (some (.inr (.inr ())))
noncomputable def Ue (a0:(List (List Int))) (a1:(List (List Int))):Option Bool :=
 cond ((a0.length:Int) != (a1.length:Int)) (some false) ((Zz (Km a0 a1) 0).bind fun (z9:(Unit ⊕ Unit))=>match z9 with | .inl z9=>some false | .inr z9=>some true)
structure Zc where
 Kind:Int
 Words:(List Int)
 Kids:(List Zc)
noncomputable def Y0 (Qc:(Zc→Int→Int→Option Int)) (a0:Zc) (a1:Int) (s0_:(Int×Int)):Option ((Int×Int) ⊕ Int) :=
 cond (cond (decide (s0_.2 < (a0.Kids.length:Int))) (decide (0≤s0_.1)) false) ((Zx a0.Kids s0_.2).bind fun x1=>(Qc x1 (IntKind.i64.wrap (a1 - 1)) s0_.1).bind fun y2=>some (.inl (y2,(IntKind.i64.wrap (s0_.2+1))))) (some (.inr s0_.1))
noncomputable def Y3 (Qc:(Zc→Int→Int→Option Int)) (a0:Zc) (a1:Int) (a2:Int):Option Int :=
 cond (cond (a1 == 0) true (decide ((IntKind.i64.wrap ((IntKind.i64.wrap (a2 - 1)) - (a0.Words.length:Int))) < 0))) (some (-1)) ((Zz (Y0 Qc a0 a1) ((IntKind.i64.wrap ((IntKind.i64.wrap (a2 - 1)) - (a0.Words.length:Int))),0)).bind fun (z4:Int)=>some z4)
noncomputable def Yf:Nat→(Zc→Int→Int→Option Int)
 | 0=>(fun _ _ _=>none)
 | k+1=>Y3 ((Yf k))
noncomputable def Uw (a0:Zc) (a1:Int) (a2:Int):Option Int:=lim fun k=>(Yf k) a0 a1 a2
noncomputable def Gg (a0:Zc):Option Bool :=
 (Uw a0 80 3000).bind fun y2=>some (decide (0≤y2))
noncomputable def Zdg (a0:Int):Option Bool :=
 some (cond (decide (2≤a0)) (decide (a0≤9)) false)
noncomputable def Ja (a0:(List Zc)) (s0_:Int):Option (Int ⊕ (Unit ⊕ Unit)) :=
 cond (decide (s0_ < (a0.length:Int))) ((Zx a0 s0_).bind fun x2=>cond (x2.Kind != 1) (some (.inr (.inl ()))) (some (.inl (IntKind.i64.wrap (s0_+1))))) (some (.inr (.inr ())))
noncomputable def Kp (a0:(List Zc)):Option Bool :=
 (Zz (Ja a0) 0).bind fun (z5:(Unit ⊕ Unit))=>match z5 with | .inl z5=>some false | .inr z5=>some true
noncomputable def Jp (a0:Int):Option (Int×Bool) :=
 ((some (⟨[0,1,8,16,32,64],rfl⟩:(Arr Int 6)))).bind fun y6=>((some (⟨[0,0,0,0,0,0],rfl⟩:(Arr Int 6)))).bind fun y8=>cond (cond (decide (a0 < 0)) true (decide (6≤a0))) (some (0,false)) ((Zx y6.1 a0).bind fun x12=>some (x12,true))
noncomputable def Za6 (a0:Int) (a1:Int):Option Bool :=
 (Jp a0).bind fun y2=>(cond y2.2 ((Q9 (0≤y2.1)).bind fun u6=>some (cond y2.2 ((Int.fdiv a1 (2 ^ min (Int.toNat y2.1) 64)) == 0) false)) (some false)).bind fun (z4:Bool)=>some z4
noncomputable def Zbf (Yo:(Zc→Option Bool)) (Yn:(Zc→Int→Option Bool)) (Yh:((List Zc)→Int→Option Bool)) (Yi:((List Zc)→Int→Option Bool)) (a0:Zc):Option Bool :=
 cond (a0.Kind == 10) (some (cond ((a0.Words.length:Int) == 1) ((a0.Kids.length:Int) == 0) false)) ((Yn a0 64).bind fun y2=>some y2)
noncomputable def Zbg (Yo:(Zc→Option Bool)) (Yn:(Zc→Int→Option Bool)) (Yh:((List Zc)→Int→Option Bool)) (Yi:((List Zc)→Int→Option Bool)) (a0:Zc) (a1:Int):Option Bool :=
 cond (a0.Kind == 0) (some (cond ((a0.Words.length:Int) == 0) ((a0.Kids.length:Int) == 0) false)) (cond (a1 == 0) (some false) (cond (a0.Kind == 1) ((cond (decide ((a0.Words.length:Int) < 65536)) (cond (decide ((a0.Kids.length:Int) < 65536)) ((Yh a0.Kids (IntKind.i64.wrap (a1 - 1))).bind fun y4=>some (cond (cond (decide ((a0.Words.length:Int) < 65536)) (decide ((a0.Kids.length:Int) < 65536)) false) y4 false)) (some false)) (some false)).bind fun (z2:Bool)=>some z2) ((Zdg a0.Kind).bind fun y8=>cond (cond (cond (!y8) true (decide (0 < (a0.Words.length:Int)))) true (decide (1048576≤(a0.Kids.length:Int)))) (some false) (cond (a0.Kind == 8) ((Yh a0.Kids (IntKind.i64.wrap (a1 - 1))).bind fun y10=>some y10) (cond (a0.Kind == 9) (((Kp a0.Kids).bind fun y16=>cond y16 ((Yh a0.Kids (IntKind.i64.wrap (a1 - 1))).bind fun y17=>some (cond y16 y17 false)) (some false)).bind fun (z13:Bool)=>some z13) ((Yi a0.Kids (IntKind.i64.wrap (a0.Kind - 2))).bind fun y20=>some y20))))))
noncomputable def Jv (Yn:(Zc→Int→Option Bool)) (a0:(List Zc)) (a1:Int) (s0_:Int):Option (Int ⊕ (Unit ⊕ Unit)) :=
 cond (decide (s0_ < (a0.length:Int))) ((Zx a0 s0_).bind fun x2=>(Yn x2 a1).bind fun y4=>cond (!y4) (some (.inr (.inl ()))) (some (.inl (IntKind.i64.wrap (s0_+1))))) (some (.inr (.inr ())))
noncomputable def Vu (Yo:(Zc→Option Bool)) (Yn:(Zc→Int→Option Bool)) (Yh:((List Zc)→Int→Option Bool)) (Yi:((List Zc)→Int→Option Bool)) (a0:(List Zc)) (a1:Int):Option Bool :=
 (Zz (Jv Yn a0 a1) 0).bind fun (z7:(Unit ⊕ Unit))=>match z7 with | .inl z7=>some false | .inr z7=>some true
noncomputable def Ju (Yo:(Zc→Option Bool)) (a0:(List Zc)) (a1:Int) (s0_:Int):Option (Int ⊕ (Unit ⊕ Unit)) :=
 cond (decide (s0_ < (a0.length:Int))) ((Zx a0 s0_).bind fun x2=>(cond (x2.Kind != 10) (some true) ((Yo x2).bind fun y10=>cond y10 ((Zx x2.Words 0).bind fun x11=>(Za6 a1 x11).bind fun y12=>some (cond (cond (x2.Kind != 10) true (!y10)) true (!y12))) (some true))).bind fun (z6:Bool)=>cond z6 (some (.inr (.inl ()))) (some (.inl (IntKind.i64.wrap (s0_+1))))) (some (.inr (.inr ())))
noncomputable def Vt (Yo:(Zc→Option Bool)) (Yn:(Zc→Int→Option Bool)) (Yh:((List Zc)→Int→Option Bool)) (Yi:((List Zc)→Int→Option Bool)) (a0:(List Zc)) (a1:Int):Option Bool :=
 (Zz (Ju Yo a0 a1) 0).bind fun (z17:(Unit ⊕ Unit))=>match z17 with | .inl z17=>some false | .inr z17=>some true
noncomputable def Zn:Nat→((Zc→Option Bool)×(Zc→Int→Option Bool)×((List Zc)→Int→Option Bool)×((List Zc)→Int→Option Bool))
 | 0=>((fun _=>none),(fun _ _=>none),(fun _ _=>none),(fun _ _=>none))
 | k+1=>(Zbf ((Zn k).1) ((Zn k).2.1) ((Zn k).2.2.1) ((Zn k).2.2.2),Zbg ((Zn k).1) ((Zn k).2.1) ((Zn k).2.2.1) ((Zn k).2.2.2),Vu ((Zn k).1) ((Zn k).2.1) ((Zn k).2.2.1) ((Zn k).2.2.2),Vt ((Zn k).1) ((Zn k).2.1) ((Zn k).2.2.1) ((Zn k).2.2.2))
noncomputable def Zik (a0:Zc):Option Bool:=lim fun k=>(Zn k).1 a0
noncomputable def Jl (a0:(List Int)) (s0_:Int):Option (Int ⊕ Int) :=
 (cond (decide (0 < s0_)) ((Zx a0 (IntKind.i64.wrap (s0_ - 1))).bind fun x4=>some (cond (decide (0 < s0_)) (x4 == 0) false)) (some false)).bind fun (z2:Bool)=>cond z2 (some (.inl (IntKind.i64.wrap (s0_ - 1)))) (some (.inr s0_))
noncomputable def Vk (a0:(List Int)):Option (List Int) :=
 (Zz (Jl a0) (a0.length:Int)).bind fun (z7:Int)=>(Zlo a0 0 z7).bind fun l9=>some l9
noncomputable def J4 (a0:(List Zc)) (s0_:Int):Option (Int ⊕ Int) :=
 (cond (decide (0 < s0_)) ((Zx a0 (IntKind.i64.wrap (s0_ - 1))).bind fun x6=>some (cond (decide (0 < s0_)) (x6.Kind == 0) false)) (some false)).bind fun (z3:Bool)=>cond z3 (some (.inl (IntKind.i64.wrap (s0_ - 1)))) (some (.inr s0_))
noncomputable def V2 (a0:(List Zc)):Option (List Zc) :=
 (Zz (J4 a0) (a0.length:Int)).bind fun (z10:Int)=>(Zlo a0 0 z10).bind fun l12=>some l12
noncomputable def Vd (Zbb:(Zc→Option Zc)) (z1:((List Int)×(List Zc))) (s0_:(Int×(List Zc))):Option ((Int×(List Zc)) ⊕ (List Zc)) :=
 cond (decide (s0_.1 < (z1.2.length:Int))) ((Zx z1.2 s0_.1).bind fun x9=>(Zbb x9).bind fun y10=>(Zx s0_.2 s0_.1).bind fun x11=>some (.inl ((IntKind.i64.wrap (s0_.1+1)),(Z9 s0_.2 s0_.1 y10)))) (some (.inr s0_.2))
noncomputable def Zc8 (Zbb:(Zc→Option Zc)) (a0:Zc):Option Zc :=
 cond (a0.Kind == 0) (some (⟨0,[],[]⟩:Zc)) ((cond (a0.Kind == 1) ((Vk a0.Words).bind fun y2=>(V2 a0.Kids).bind fun y3=>some (y2,y3)) (some (a0.Words,a0.Kids))).bind fun (z1:((List Int)×(List Zc)))=>(cond (decide (0 < (z1.2.length:Int))) ((Zdw 56 (z1.2.length:Int) (⟨(0:Int),[],[]⟩:Zc)).bind fun l6=>some l6) (some ([]:List Zc))).bind fun (z5:(List Zc))=>(Zz (Vd Zbb z1) (0,z5)).bind fun (z14:(List Zc))=>some (⟨a0.Kind,z1.1,z14⟩:Zc))
noncomputable def Jo:Nat→(Zc→Option Zc)
 | 0=>(fun _=>none)
 | k+1=>Zc8 ((Jo k))
noncomputable def Zgk (a0:Zc):Option Zc:=lim fun k=>(Jo k) a0
noncomputable def Qs (a0:Int):Option Int :=
 cond (a0 == 0) (some 0) (cond (a0 == 1) (some 1) (cond (a0 == 2) (some 8) (cond (a0 == 3) (some 16) (cond (a0 == 4) (some 32) (cond (a0 == 5) (some 64) (some (-1)))))))
noncomputable def Xm (y2:Int) (s0_:(Int×Int)):Option ((Int×Int) ⊕ Int) :=
 cond (decide (s0_.2 < y2)) (some (.inl ((IntKind.u64.wrap (Int.tdiv s0_.1 2)),(IntKind.i64.wrap (s0_.2+1))))) (some (.inr s0_.1))
noncomputable def Zbp (a0:Int) (a1:Int):Option Bool :=
 (Qs a0).bind fun y2=>cond (decide (y2 < 0)) (some false) ((Zz (Xm y2) (a1,0)).bind fun (z4:Int)=>some (z4 == 0))
noncomputable def Ka (a0:Zc) (s0_:(Int×Int×Int)):Option ((Int×Int×Int) ⊕ (Int×Int)) :=
 cond (decide (s0_.2.2 < (a0.Kids.length:Int))) ((((Zx a0.Kids s0_.2.2).bind fun x5=>cond (decide (s0_.1 < (x5.Words.length:Int))) ((Zx a0.Kids s0_.2.2).bind fun x7=>some (x7.Words.length:Int)) (some s0_.1)).bind fun (z2:Int)=>(Zx a0.Kids s0_.2.2).bind fun x12=>cond (decide (s0_.2.1 < (x12.Kids.length:Int))) ((Zx a0.Kids s0_.2.2).bind fun x14=>some (z2,(x14.Kids.length:Int))) (some (z2,s0_.2.1))).bind fun (z1:(Int×Int))=>some (.inl (z1.1,z1.2,(IntKind.i64.wrap (s0_.2.2+1))))) (some (.inr (s0_.1,s0_.2.1)))
noncomputable def Zam (a0:Zc):Option (Int×Int) :=
 (Zz (Ka a0) (0,0,0)).bind fun (z18:(Int×Int))=>some (z18.1,z18.2)
noncomputable def Zbq (a0:Int) (a1:Int):Option Int :=
 (Qs a0).bind fun y2=>cond (cond (cond (decide (y2 < 1)) true (decide (a1 < 0))) true (decide (1099511627776 < a1))) (some 0) ((Qs a0).bind fun y5=>(Q9 (y5≠0)).bind fun u6=>(Q9 ((IntKind.i64.wrap (Int.tdiv 64 y5))≠0)).bind fun u8=>cond (decide (0 < (Int.tmod a1 (IntKind.i64.wrap (Int.tdiv 64 y5))))) ((Q9 ((IntKind.i64.wrap (Int.tdiv 64 y5))≠0)).bind fun u10=>some (IntKind.i64.wrap ((IntKind.i64.wrap (Int.tdiv a1 (IntKind.i64.wrap (Int.tdiv 64 y5))))+1))) ((Q9 ((IntKind.i64.wrap (Int.tdiv 64 y5))≠0)).bind fun u12=>some (IntKind.i64.wrap (Int.tdiv a1 (IntKind.i64.wrap (Int.tdiv 64 y5))))))
noncomputable def Gr (y2:Int) (s0_:(Int×(List Int))) (s1_:(Int×Int)):Option ((Int×Int) ⊕ Int) :=
 cond (decide (s1_.2 < (Int.tmod (IntKind.i64.wrap (s0_.1 * y2)) 64))) (some (.inl ((IntKind.u64.wrap (s1_.1 * 2)),(IntKind.i64.wrap (s1_.2+1))))) (some (.inr s1_.1))
noncomputable def Yq (a0:Int) (a1:(List Int)) (y2:Int) (s0_:(Int×(List Int))):Option ((Int×(List Int)) ⊕ (Unit ⊕ (List Int))) :=
 cond (decide (s0_.1 < (a1.length:Int))) (((Zx a1 s0_.1).bind fun x9=>(Zbp a0 x9).bind fun y11=>cond (!y11) (some (.inr ())) ((Zz (Gr y2 s0_) (x9,0)).bind fun (z13:Int)=>cond (decide (0 < y2)) ((Zx s0_.2 (IntKind.i64.wrap (Int.tdiv (IntKind.i64.wrap (s0_.1 * y2)) 64))).bind fun x14=>some (.inl (Z9 s0_.2 (IntKind.i64.wrap (Int.tdiv (IntKind.i64.wrap (s0_.1 * y2)) 64)) (IntKind.u64.wrap (x14+z13))))) (some (.inl s0_.2)))).bind fun (z7:((List Int) ⊕ Unit))=>match z7 with | .inl z7=>some (.inl ((IntKind.i64.wrap (s0_.1+1)),z7)) | .inr z7=>some (.inr (.inl ()))) (some (.inr (.inr s0_.2)))
noncomputable def Zcl (a0:Int) (a1:(List Int)):Option ((List Int)×Bool) :=
 (Qs a0).bind fun y2=>cond (decide (y2 < 0)) (some (([]:(List Int)),false)) ((Zbq a0 (a1.length:Int)).bind fun y5=>(Zdw 8 y5 (0:Int)).bind fun l6=>(Zz (Yq a0 a1 y2) (0,l6)).bind fun (z20:(Unit ⊕ (List Int)))=>match z20 with | .inl z20=>some (([]:(List Int)),false) | .inr z20=>some (z20,true))
noncomputable def V1 (a0:Zc) (s0_:(Int×Int×Int)):Option ((Int×Int×Int) ⊕ (Int×Int)) :=
 cond (decide (s0_.2.2 < (a0.Kids.length:Int))) ((Zx a0.Kids s0_.2.2).bind fun x2=>some (.inl ((if s0_.1 < (x2.Words.length:Int) then (x2.Words.length:Int) else s0_.1),(if s0_.2.1 < (x2.Kids.length:Int) then (x2.Kids.length:Int) else s0_.2.1),(IntKind.i64.wrap (s0_.2.2+1))))) (some (.inr (s0_.1,s0_.2.1)))
noncomputable def Ko (a0:Zc):Option (Int×Int) :=
 (Zz (V1 a0) (0,0,0)).bind fun (z4:(Int×Int))=>some (z4.1,z4.2)
structure Zw where
 Kind:Int
 Off:Int
 Data:Int
 Ptrs:Int
 Code:Int
 Count:Int
 Segment:Int
 Double:Bool
noncomputable def Zc7 (a0:Zc):Option Zw :=
 cond (a0.Kind == 1) (some (⟨1,0,(a0.Words.length:Int),(a0.Kids.length:Int),0,0,0,false⟩:Zw)) (cond (a0.Kind == 9) ((Ko a0).bind fun y2=>some (⟨2,0,0,0,7,(IntKind.i64.wrap ((a0.Kids.length:Int) * (IntKind.i64.wrap (y2.1+y2.2)))),0,false⟩:Zw)) (some (⟨2,0,0,0,(IntKind.i64.wrap (a0.Kind - 2)),(a0.Kids.length:Int),0,false⟩:Zw)))
noncomputable def Vn (a0:Zc) (a1:Int):Option Int :=
 cond (cond (decide (a1 < 0)) true (decide ((a0.Words.length:Int)≤a1))) (some 0) ((Zx a0.Words a1).bind fun x2=>some x2)
noncomputable def Za7 (a0:Int) (a1:Int):Option Int :=
 (Jp a0).bind fun y2=>cond (cond (cond (!y2.2) true (decide (a1 < 0))) true (decide (1099511627776 < a1))) (some 0) (some (IntKind.i64.wrap (Int.tdiv (IntKind.i64.wrap ((IntKind.i64.wrap (a1 * y2.1))+63)) 64)))
noncomputable def V8 (a0:Int) (a1:(List Int)) (s0_:(Bool×Int)):Option ((Bool×Int) ⊕ Bool) :=
 cond (decide (s0_.2 < (a1.length:Int))) ((Zx a1 s0_.2).bind fun x4=>cond s0_.1 ((Za6 a0 x4).bind fun y5=>some (.inl ((cond s0_.1 y5 false),(IntKind.i64.wrap (s0_.2+1))))) (some (.inl (false,(IntKind.i64.wrap (s0_.2+1)))))) (some (.inr s0_.1))
noncomputable def Ky (a1:(List Int)) (y2:(Int×Bool)) (s1_:(Int×(List Int))):Option ((Int×(List Int)) ⊕ (List Int)) :=
 cond (decide (s1_.1 < (a1.length:Int))) ((Zx a1 s1_.1).bind fun x16=>(Q9 ((IntKind.i64.wrap (Int.tdiv 64 y2.1))≠0)).bind fun u17=>(Zx s1_.2 (IntKind.i64.wrap (Int.tdiv s1_.1 (IntKind.i64.wrap (Int.tdiv 64 y2.1))))).bind fun x18=>(Q9 ((IntKind.i64.wrap (Int.tdiv 64 y2.1))≠0)).bind fun u19=>(Q9 (0≤(IntKind.i64.wrap ((Int.tmod s1_.1 (IntKind.i64.wrap (Int.tdiv 64 y2.1))) * y2.1)))).bind fun u20=>some (.inl ((IntKind.i64.wrap (s1_.1+1)),(Z9 s1_.2 (IntKind.i64.wrap (Int.tdiv s1_.1 (IntKind.i64.wrap (Int.tdiv 64 y2.1)))) (IntKind.u64.wrap (Ug .u64 x18 (IntKind.u64.wrap (x16 * 2 ^ min (Int.toNat (IntKind.i64.wrap ((Int.tmod s1_.1 (IntKind.i64.wrap (Int.tdiv 64 y2.1))) * y2.1))) 64)))))))) (some (.inr s1_.2))
noncomputable def Ux (a0:Int) (a1:(List Int)):Option ((List Int)×Bool) :=
 (Jp a0).bind fun y2=>(Zz (V8 a0 a1) (y2.2,0)).bind fun (z8:Bool)=>cond (!z8) (some (([]:(List Int)),false)) ((Za7 a0 (a1.length:Int)).bind fun y11=>(Zdw 8 y11 (0:Int)).bind fun l12=>cond (y2.1 == 0) (some (l12,true)) ((Q9 (y2.1≠0)).bind fun u14=>(Zz (Ky a1 y2) (0,l12)).bind fun (z24:(List Int))=>some (z24,true)))
noncomputable def J0 (a0:Zc) (s0_:(Int×(List Int))):Option ((Int×(List Int)) ⊕ (List Int)) :=
 cond (decide (s0_.1 < (a0.Kids.length:Int))) ((Zx a0.Kids s0_.1).bind fun x2=>(Vn x2 0).bind fun y3=>(Zkp 8 s0_.2 ([y3]:List Int)).bind fun l4=>some (.inl ((IntKind.i64.wrap (s0_.1+1)),l4))) (some (.inr s0_.2))
noncomputable def G3 (a0:Zc):Option (List Int) :=
 (Zz (J0 a0) (0,([]:List Int))).bind fun (z6:(List Int))=>(Ux (IntKind.i64.wrap (a0.Kind - 2)) z6).bind fun y8=>some y8.1
noncomputable def Zg8 (a0:Zw):Option Int :=
 cond (a0.Kind == 1) (some (IntKind.u64.wrap (Ug .u64 (IntKind.u64.wrap (Ug .u64 (IntKind.u64.wrap (IntKind.u32.wrap ((IntKind.u32.wrap a0.Off) * 2 ^ min (Int.toNat 2) 32))) (IntKind.u64.wrap ((IntKind.u64.wrap a0.Data) * 2 ^ min (Int.toNat 32) 64)))) (IntKind.u64.wrap ((IntKind.u64.wrap a0.Ptrs) * 2 ^ min (Int.toNat 48) 64))))) (cond (a0.Kind == 2) (some (IntKind.u64.wrap (Ug .u64 (IntKind.u64.wrap (Ug .u64 (IntKind.u64.wrap (Ug .u64 1 (IntKind.u64.wrap (IntKind.u32.wrap ((IntKind.u32.wrap a0.Off) * 2 ^ min (Int.toNat 2) 32))))) (IntKind.u64.wrap ((IntKind.u64.wrap a0.Code) * 2 ^ min (Int.toNat 32) 64)))) (IntKind.u64.wrap ((IntKind.u64.wrap a0.Count) * 2 ^ min (Int.toNat 35) 64))))) (cond (a0.Kind == 3) ((cond a0.Double (some (IntKind.u64.wrap (Ug .u64 (IntKind.u64.wrap (Ug .u64 (IntKind.u64.wrap (Ug .u64 2 (IntKind.u64.wrap ((IntKind.u64.wrap a0.Off) * 2 ^ min (Int.toNat 3) 64)))) (IntKind.u64.wrap ((IntKind.u64.wrap a0.Segment) * 2 ^ min (Int.toNat 32) 64)))) 4))) (some (IntKind.u64.wrap (Ug .u64 (IntKind.u64.wrap (Ug .u64 2 (IntKind.u64.wrap ((IntKind.u64.wrap a0.Off) * 2 ^ min (Int.toNat 3) 64)))) (IntKind.u64.wrap ((IntKind.u64.wrap a0.Segment) * 2 ^ min (Int.toNat 32) 64)))))).bind fun (z1:Int)=>some z1) (some 0)))
noncomputable def Zbs (a0:Int):Option Int :=
 some (IntKind.i64.wrap (Int.fdiv (IntKind.i32.wrap (IntKind.u32.wrap a0)) (2 ^ min (Int.toNat 2) 32)))
noncomputable def Xe (a0:Int) (a1:Int) (a2:Int):Option Int :=
 (Q9 (0≤a1)).bind fun u3=>(Q9 (0≤a2)).bind fun u4=>some (IntKind.i64.wrap (IntKind.u64.wrap (Zbz .u64 (Int.fdiv a0 (2 ^ min (Int.toNat a1) 64)) (IntKind.u64.wrap ((IntKind.u64.wrap (1 * 2 ^ min (Int.toNat a2) 64)) - 1)))))
noncomputable def Zbr (a0:Int):Option Zw :=
 cond (a0 == 0) (some (⟨0,0,0,0,0,0,0,false⟩:Zw)) (cond ((IntKind.u64.wrap (Zbz .u64 a0 3)) == 0) ((Zbs a0).bind fun y4=>(Xe a0 32 16).bind fun y5=>(Xe a0 48 16).bind fun y6=>some (⟨1,y4,y5,y6,0,0,0,false⟩:Zw)) (cond ((IntKind.u64.wrap (Zbz .u64 a0 3)) == 1) ((Zbs a0).bind fun y10=>(Xe a0 32 3).bind fun y11=>(Xe a0 35 29).bind fun y12=>some (⟨2,y10,0,0,y11,y12,0,false⟩:Zw)) (cond ((IntKind.u64.wrap (Zbz .u64 a0 3)) == 2) ((Xe a0 3 29).bind fun y15=>(Xe a0 32 32).bind fun y16=>some (⟨3,y15,0,0,0,0,y16,((IntKind.u64.wrap (Zbz .u64 (Int.fdiv a0 (2 ^ min (Int.toNat 2) 64)) 1)) == 1)⟩:Zw)) (some (⟨4,0,0,0,0,0,0,false⟩:Zw)))))
noncomputable def X6 (a0:Zw):Option (Int×Bool) :=
 (Zg8 a0).bind fun y2=>(cond (a0.Kind != 4) ((Zbr y2).bind fun y6=>some (cond (a0.Kind != 4) ((y6.Kind == a0.Kind) && ((y6.Off == a0.Off) && ((y6.Data == a0.Data) && ((y6.Ptrs == a0.Ptrs) && ((y6.Code == a0.Code) && ((y6.Count == a0.Count) && ((y6.Segment == a0.Segment) && (y6.Double == a0.Double)))))))) false)) (some false)).bind fun (z4:Bool)=>some (y2,z4)
noncomputable def Vr (a0:Zw):Option Int :=
 (X6 a0).bind fun y2=>some y2.1
noncomputable def Zgi (a0:Int):Option Int :=
 ((some (⟨[0,1,8,16,32,64,64],rfl⟩:(Arr Int 7)))).bind fun y6=>((some (⟨[0,0,0,0,0,0,0],rfl⟩:(Arr Int 7)))).bind fun y8=>(Zx y6.1 a0).bind fun x12=>some x12
noncomputable def Yz (a0:Zw):Option (Int×Bool) :=
 cond (a0.Kind == 1) (some ((IntKind.i64.wrap (a0.Data+a0.Ptrs)),true)) (cond (cond (a0.Kind == 2) (a0.Code == 7) false) (some ((IntKind.i64.wrap (a0.Count+1)),true)) (cond (cond (cond (cond (cond (a0.Kind == 2) (decide (0≤a0.Code)) false) (decide (a0.Code < 7)) false) (decide (0≤a0.Count)) false) (decide (a0.Count≤536870911)) false) ((Zgi a0.Code).bind fun y2=>some ((IntKind.i64.wrap (Int.tdiv (IntKind.i64.wrap ((IntKind.i64.wrap (a0.Count * y2))+63)) 64)),true)) (some (0,false))))
noncomputable def Zgj (a0:Int):Option Bool :=
 some (cond (decide (2≤a0)) (decide (a0≤7)) false)
noncomputable def Ve (X7:((List Zc)→Option Int)) (a0:Zc) (s0_:(Int×Int)):Option ((Int×Int) ⊕ Int) :=
 cond (decide (s0_.2 < (a0.Kids.length:Int))) ((Zx a0.Kids s0_.2).bind fun x12=>(X7 x12.Kids).bind fun y13=>some (.inl ((IntKind.i64.wrap (s0_.1+y13)),(IntKind.i64.wrap (s0_.2+1))))) (some (.inr s0_.1))
noncomputable def Zc9 (Js:(Zc→Option Int)) (X7:((List Zc)→Option Int)) (a0:Zc):Option Int :=
 cond (a0.Kind == 1) ((X7 a0.Kids).bind fun y2=>some (IntKind.i64.wrap ((IntKind.i64.wrap ((a0.Words.length:Int)+(a0.Kids.length:Int)))+y2))) ((Zgj a0.Kind).bind fun y4=>cond y4 ((Za7 (IntKind.i64.wrap (a0.Kind - 2)) (a0.Kids.length:Int)).bind fun y6=>some y6) (cond (a0.Kind == 8) ((X7 a0.Kids).bind fun y8=>some (IntKind.i64.wrap ((a0.Kids.length:Int)+y8))) (cond (a0.Kind == 9) ((Ko a0).bind fun y10=>(Zz (Ve X7 a0) ((IntKind.i64.wrap (1+(IntKind.i64.wrap ((a0.Kids.length:Int) * (IntKind.i64.wrap (y10.1+y10.2)))))),0)).bind fun (z15:Int)=>some z15) (some 0))))
noncomputable def Kg (Js:(Zc→Option Int)) (a0:(List Zc)) (s0_:(Int×Int)):Option ((Int×Int) ⊕ Int) :=
 cond (decide (s0_.2 < (a0.length:Int))) ((Zx a0 s0_.2).bind fun x2=>(Js x2).bind fun y3=>some (.inl ((IntKind.i64.wrap (s0_.1+y3)),(IntKind.i64.wrap (s0_.2+1))))) (some (.inr s0_.1))
noncomputable def Zbh (Js:(Zc→Option Int)) (X7:((List Zc)→Option Int)) (a0:(List Zc)):Option Int :=
 (Zz (Kg Js a0) (0,0)).bind fun (z5:Int)=>some z5
noncomputable def Ym:Nat→((Zc→Option Int)×((List Zc)→Option Int))
 | 0=>((fun _=>none),(fun _=>none))
 | k+1=>(Zc9 ((Ym k).1) ((Ym k).2),Zbh ((Ym k).1) ((Ym k).2))
noncomputable def Zla (a0:Zc):Option Int:=lim fun k=>(Ym k).1 a0
noncomputable def Zdh (a0:Zc):Option Int :=
 (Zgk a0).bind fun y3=>(Zla y3).bind fun y4=>some y4
noncomputable def Q2 (a0:Zc):Option Zw :=
 cond (a0.Kind == 1) (some (⟨1,0,(a0.Words.length:Int),(a0.Kids.length:Int),0,0,0,false⟩:Zw)) (cond (a0.Kind == 9) ((Ko a0).bind fun y2=>some (⟨2,0,0,0,7,(IntKind.i64.wrap ((a0.Kids.length:Int) * (IntKind.i64.wrap (y2.1+y2.2)))),0,false⟩:Zw)) (some (⟨2,0,0,0,(IntKind.i64.wrap (a0.Kind - 2)),(a0.Kids.length:Int),0,false⟩:Zw)))
noncomputable def J3 (a0:Zc) (s0_:(Int×(List Int))):Option ((Int×(List Int)) ⊕ (List Int)) :=
 cond (decide (s0_.1 < (a0.Kids.length:Int))) ((Zx a0.Kids s0_.1).bind fun x2=>(Vn x2 0).bind fun y3=>(Zkp 8 s0_.2 ([y3]:List Int)).bind fun l4=>some (.inl ((IntKind.i64.wrap (s0_.1+1)),l4))) (some (.inr s0_.2))
noncomputable def V0 (a0:Zc):Option (List Int) :=
 (Zz (J3 a0) (0,([]:List Int))).bind fun (z6:(List Int))=>(Ux (IntKind.i64.wrap (a0.Kind - 2)) z6).bind fun y8=>some y8.1
structure Ze where
 words:(List Int)
 next:Int
noncomputable def Xd (Z5:(Ze→Int→Zc→Option Ze)) (Z4:(Ze→Int→Zc→Option Ze)) (Zv:(Ze→Int→(List Zc)→Option Ze)) (Z6:(Ze→Int→Zc→Option Ze)) (a0:Ze) (a1:Int) (a2:Zc):Option Ze :=
 cond (a2.Kind == 0) (some (⟨a0.words,a0.next⟩:Ze)) ((Q2 a2).bind fun y2=>(Yz y2).bind fun y4=>(cond (cond (y2.Kind == 1) (y4.1 == 0) false) (some (-1)) (some (IntKind.i64.wrap ((IntKind.i64.wrap (a0.next - a1)) - 1)))).bind fun (z5:Int)=>(X6 (⟨y2.Kind,z5,y2.Data,y2.Ptrs,y2.Code,y2.Count,y2.Segment,y2.Double⟩:Zw)).bind fun y10=>(Zx a0.words a1).bind fun x11=>(Z4 (⟨(Z9 a0.words a1 y10.1),(IntKind.i64.wrap (a0.next+y4.1))⟩:Ze) a0.next a2).bind fun y13=>some (⟨y13.words,y13.next⟩:Ze))
noncomputable def Yx (Z5:(Ze→Int→Zc→Option Ze)) (Z4:(Ze→Int→Zc→Option Ze)) (Zv:(Ze→Int→(List Zc)→Option Ze)) (Z6:(Ze→Int→Zc→Option Ze)) (a0:Ze) (a1:Int) (a2:Zc):Option Ze :=
 cond (a2.Kind == 1) ((Q9 (0 < List.length a0.words∧0≤a1∧a1≤(List.length a0.words:Int))).bind fun u1=>(Zv (⟨(Zeg a0.words a1 a2.Words),a0.next⟩:Ze) (IntKind.i64.wrap (a1+((min (List.length a2.Words) (Int.toNat ((List.length a0.words:Int) - a1)):Nat):Int))) a2.Kids).bind fun y3=>some (⟨y3.words,y3.next⟩:Ze)) (cond (a2.Kind == 8) ((Zv (⟨a0.words,a0.next⟩:Ze) a1 a2.Kids).bind fun y4=>some (⟨y4.words,y4.next⟩:Ze)) (cond (a2.Kind == 9) ((Z6 (⟨a0.words,a0.next⟩:Ze) a1 a2).bind fun y5=>some (⟨y5.words,y5.next⟩:Ze)) ((Q9 (0 < List.length a0.words∧0≤a1∧a1≤(List.length a0.words:Int))).bind fun u6=>(V0 a2).bind fun y7=>some (⟨(Zeg a0.words a1 y7),a0.next⟩:Ze))))
noncomputable def Xu (Z5:(Ze→Int→Zc→Option Ze)) (a1:Int) (a2:(List Zc)) (s0_:(Int×(List Int)×Int)):Option ((Int×(List Int)×Int) ⊕ ((List Int)×Int)) :=
 cond (decide (s0_.1 < (a2.length:Int))) ((Zx a2 s0_.1).bind fun x2=>(Z5 (⟨s0_.2.1,s0_.2.2⟩:Ze) (IntKind.i64.wrap (a1+s0_.1)) x2).bind fun y3=>some (.inl ((IntKind.i64.wrap (s0_.1+1)),y3.words,y3.next))) (some (.inr (s0_.2.1,s0_.2.2)))
noncomputable def Qf (Z5:(Ze→Int→Zc→Option Ze)) (Z4:(Ze→Int→Zc→Option Ze)) (Zv:(Ze→Int→(List Zc)→Option Ze)) (Z6:(Ze→Int→Zc→Option Ze)) (a0:Ze) (a1:Int) (a2:(List Zc)):Option Ze :=
 (Zz (Xu Z5 a1 a2) (0,a0.words,a0.next)).bind fun (z5:((List Int)×Int))=>some (⟨z5.1,z5.2⟩:Ze)
noncomputable def X2 (a1:Int) (a2:Zc) (y2:(Int×Int)) (s0_:(Int×(List Int))):Option ((Int×(List Int)) ⊕ (List Int)) :=
 cond (decide (s0_.1 < (a2.Kids.length:Int))) ((Zx a2.Kids s0_.1).bind fun x9=>(Q9 (0 < List.length s0_.2∧0≤(IntKind.i64.wrap ((IntKind.i64.wrap (a1+1))+(IntKind.i64.wrap (s0_.1 * (IntKind.i64.wrap (y2.1+y2.2))))))∧(IntKind.i64.wrap ((IntKind.i64.wrap (a1+1))+(IntKind.i64.wrap (s0_.1 * (IntKind.i64.wrap (y2.1+y2.2))))))≤(List.length s0_.2:Int))).bind fun u10=>some (.inl ((IntKind.i64.wrap (s0_.1+1)),(Zeg s0_.2 (IntKind.i64.wrap ((IntKind.i64.wrap (a1+1))+(IntKind.i64.wrap (s0_.1 * (IntKind.i64.wrap (y2.1+y2.2)))))) x9.Words)))) (some (.inr s0_.2))
noncomputable def X3 (Zv:(Ze→Int→(List Zc)→Option Ze)) (a1:Int) (a2:Zc) (y2:(Int×Int)) (s1_:(Int×(List Int)×Int)):Option ((Int×(List Int)×Int) ⊕ ((List Int)×Int)) :=
 cond (decide (s1_.1 < (a2.Kids.length:Int))) ((Zx a2.Kids s1_.1).bind fun x15=>(Zv (⟨s1_.2.1,s1_.2.2⟩:Ze) (IntKind.i64.wrap ((IntKind.i64.wrap ((IntKind.i64.wrap (a1+1))+(IntKind.i64.wrap (s1_.1 * (IntKind.i64.wrap (y2.1+y2.2))))))+y2.1)) x15.Kids).bind fun y16=>some (.inl ((IntKind.i64.wrap (s1_.1+1)),y16.words,y16.next))) (some (.inr (s1_.2.1,s1_.2.2)))
noncomputable def Qo (Z5:(Ze→Int→Zc→Option Ze)) (Z4:(Ze→Int→Zc→Option Ze)) (Zv:(Ze→Int→(List Zc)→Option Ze)) (Z6:(Ze→Int→Zc→Option Ze)) (a0:Ze) (a1:Int) (a2:Zc):Option Ze :=
 (Ko a2).bind fun y2=>(cond (decide (0 < (a2.Kids.length:Int))) ((X6 (⟨1,(a2.Kids.length:Int),y2.1,y2.2,0,0,0,false⟩:Zw)).bind fun y4=>(Zx a0.words a1).bind fun x5=>some (Z9 a0.words a1 y4.1)) (some a0.words)).bind fun (z3:(List Int))=>(Zz (X2 a1 a2 y2) (0,z3)).bind fun (z13:(List Int))=>(Zz (X3 Zv a1 a2 y2) (0,z13,a0.next)).bind fun (z18:((List Int)×Int))=>some (⟨z18.1,z18.2⟩:Ze)
noncomputable def Zi:Nat→((Ze→Int→Zc→Option Ze)×(Ze→Int→Zc→Option Ze)×(Ze→Int→(List Zc)→Option Ze)×(Ze→Int→Zc→Option Ze))
 | 0=>((fun _ _ _=>none),(fun _ _ _=>none),(fun _ _ _=>none),(fun _ _ _=>none))
 | k+1=>(Xd ((Zi k).1) ((Zi k).2.1) ((Zi k).2.2.1) ((Zi k).2.2.2),Yx ((Zi k).1) ((Zi k).2.1) ((Zi k).2.2.1) ((Zi k).2.2.2),Qf ((Zi k).1) ((Zi k).2.1) ((Zi k).2.2.1) ((Zi k).2.2.2),Qo ((Zi k).1) ((Zi k).2.1) ((Zi k).2.2.1) ((Zi k).2.2.2))
noncomputable def K9 (a0:Ze) (a1:Int) (a2:Zc):Option Ze:=lim fun k=>(Zi k).1 a0 a1 a2
noncomputable def Zbo (a0:Zc) (a1:Int):Option ((List Int)×Bool) :=
 (cond (a0.Kind == 10) (some true) ((Zik a0).bind fun y4=>some (cond (a0.Kind == 10) true (!y4)))).bind fun (z2:Bool)=>cond z2 (some (([]:(List Int)),false)) ((Zgk a0).bind fun y7=>(Zdh y7).bind fun y9=>cond (cond (decide (a1 < (IntKind.i64.wrap (1+y9)))) true (decide (131072 < (IntKind.i64.wrap (1+y9))))) (some (([]:(List Int)),false)) ((Zdw 8 (IntKind.i64.wrap (1+y9)) (0:Int)).bind fun l11=>(K9 (⟨l11,1⟩:Ze) 0 y7).bind fun y13=>some (y13.words,true)))
noncomputable def Qb (a0:Int) (a1:Int) (a2:Int) (a3:Int):Option Int :=
 (cond (decide ((IntKind.i64.wrap ((IntKind.i64.wrap (a1 - a0)) - 1)) < 0)) (some (IntKind.i64.wrap ((IntKind.i64.wrap ((IntKind.i64.wrap (a1 - a0)) - 1))+1073741824))) (some (IntKind.i64.wrap ((IntKind.i64.wrap (a1 - a0)) - 1)))).bind fun (z1:Int)=>some (IntKind.u64.wrap ((IntKind.u64.wrap (IntKind.i64.wrap ((IntKind.i64.wrap (4 * z1))+a2)))+(IntKind.u64.wrap (a3 * 4294967296))))
noncomputable def Va (a1:Int) (s0_:(Int×(List Int))):Option ((Int×(List Int)) ⊕ (List Int)) :=
 cond (decide (s0_.1 < a1)) ((Zkp 8 s0_.2 ([0]:List Int)).bind fun l1=>some (.inl ((IntKind.i64.wrap (s0_.1+1)),l1))) (some (.inr s0_.2))
noncomputable def Vj (a0:(List Int)) (a1:Int):Option (List Int) :=
 (Zz (Va a1) (0,a0)).bind fun (z3:(List Int))=>some z3
noncomputable def Kb (a0:Zc) (s0_:(Int×(List Int))):Option ((Int×(List Int)) ⊕ (List Int)) :=
 cond (decide (s0_.1 < (a0.Kids.length:Int))) ((Zx a0.Kids s0_.1).bind fun x1=>(Zx x1.Words 0).bind fun x3=>(Zkp 8 s0_.2 ([x3]:List Int)).bind fun l4=>some (.inl ((IntKind.i64.wrap (s0_.1+1)),l4))) (some (.inr s0_.2))
noncomputable def Zan (a0:Zc):Option (List Int) :=
 (Zz (Kb a0) (0,([]:List Int))).bind fun (z6:(List Int))=>some z6
noncomputable def K4 (Y1:((List Int)→Int→Zc→Option (List Int))) (a2:Zc) (z1:Int) (s0_:(Int×(List Int))):Option ((Int×(List Int)) ⊕ (List Int)) :=
 cond (decide (s0_.1 < (a2.Kids.length:Int))) ((Zx a2.Kids s0_.1).bind fun x13=>(Y1 s0_.2 (IntKind.i64.wrap ((IntKind.i64.wrap (z1+(a2.Words.length:Int)))+s0_.1)) x13).bind fun y14=>some (.inl ((IntKind.i64.wrap (s0_.1+1)),y14))) (some (.inr s0_.2))
noncomputable def K5 (Y1:((List Int)→Int→Zc→Option (List Int))) (a0:(List Int)) (a2:Zc) (s1_:(Int×(List Int))):Option ((Int×(List Int)) ⊕ (List Int)) :=
 cond (decide (s1_.1 < (a2.Kids.length:Int))) ((Zx a2.Kids s1_.1).bind fun x25=>(Y1 s1_.2 (IntKind.i64.wrap ((a0.length:Int)+s1_.1)) x25).bind fun y26=>some (.inl ((IntKind.i64.wrap (s1_.1+1)),y26))) (some (.inr s1_.2))
noncomputable def K6 (a2:Zc) (y30:(Int×Int)) (s2_:(Int×(List Int))):Option ((Int×(List Int)) ⊕ (List Int)) :=
 cond (decide (s2_.1 < (a2.Kids.length:Int))) ((Zx a2.Kids s2_.1).bind fun x42=>(Zkp 8 s2_.2 x42.Words).bind fun l44=>(Zx a2.Kids s2_.1).bind fun x45=>(Vj l44 (IntKind.i64.wrap ((IntKind.i64.wrap (y30.1+y30.2)) - (x45.Words.length:Int)))).bind fun y47=>some (.inl ((IntKind.i64.wrap (s2_.1+1)),y47))) (some (.inr s2_.2))
noncomputable def K8 (Y1:((List Int)→Int→Zc→Option (List Int))) (a0:(List Int)) (a2:Zc) (y30:(Int×Int)) (s3_:(Int×(List Int))) (s4_:(Int×(List Int))):Option ((Int×(List Int)) ⊕ (List Int)) :=
 (Zx a2.Kids s3_.1).bind fun x52=>cond (decide (s4_.1 < (x52.Kids.length:Int))) ((Zx a2.Kids s3_.1).bind fun x54=>(Zx x54.Kids s4_.1).bind fun x56=>(Y1 s4_.2 (IntKind.i64.wrap ((IntKind.i64.wrap ((IntKind.i64.wrap ((IntKind.i64.wrap ((a0.length:Int)+1))+(IntKind.i64.wrap (s3_.1 * (IntKind.i64.wrap (y30.1+y30.2))))))+y30.1))+s4_.1)) x56).bind fun y57=>some (.inl ((IntKind.i64.wrap (s4_.1+1)),y57))) (some (.inr s4_.2))
noncomputable def K7 (Y1:((List Int)→Int→Zc→Option (List Int))) (a0:(List Int)) (a2:Zc) (y30:(Int×Int)) (s3_:(Int×(List Int))):Option ((Int×(List Int)) ⊕ (List Int)) :=
 cond (decide (s3_.1 < (a2.Kids.length:Int))) ((Zz (K8 Y1 a0 a2 y30 s3_) (0,s3_.2)).bind fun (z59:(List Int))=>some (.inl ((IntKind.i64.wrap (s3_.1+1)),z59))) (some (.inr s3_.2))
noncomputable def Xc (Y1:((List Int)→Int→Zc→Option (List Int))) (a0:(List Int)) (a1:Int) (a2:Zc):Option (List Int) :=
 cond (a2.Kind == 0) (some a0) (cond (a2.Kind == 1) ((cond ((IntKind.i64.wrap ((a2.Words.length:Int)+(a2.Kids.length:Int))) == 0) (some a1) (some (a0.length:Int))).bind fun (z1:Int)=>(Qb a1 z1 0 (IntKind.u64.wrap ((IntKind.u64.wrap (a2.Words.length:Int))+(IntKind.u64.wrap (65536 * (IntKind.u64.wrap (a2.Kids.length:Int))))))).bind fun y6=>(Zx a0 a1).bind fun x7=>(Zkp 8 (Z9 a0 a1 y6) a2.Words).bind fun l10=>(Vj l10 (a2.Kids.length:Int)).bind fun y12=>(Zz (K4 Y1 a2 z1) (0,y12)).bind fun (z16:(List Int))=>some z16) (cond (a2.Kind == 8) ((Qb a1 (a0.length:Int) 1 (IntKind.u64.wrap (6+(IntKind.u64.wrap (8 * (IntKind.u64.wrap (a2.Kids.length:Int))))))).bind fun y20=>(Zx a0 a1).bind fun x21=>(Vj (Z9 a0 a1 y20) (a2.Kids.length:Int)).bind fun y24=>(Zz (K5 Y1 a0 a2) (0,y24)).bind fun (z28:(List Int))=>some z28) (cond (a2.Kind == 9) ((Zam a2).bind fun y30=>(Qb a1 (a0.length:Int) 1 (IntKind.u64.wrap (7+(IntKind.u64.wrap (8 * (IntKind.u64.wrap (IntKind.i64.wrap ((a2.Kids.length:Int) * (IntKind.i64.wrap (y30.1+y30.2)))))))))).bind fun y34=>(Zx a0 a1).bind fun x35=>(Zkp 8 (Z9 a0 a1 y34) ([(IntKind.u64.wrap ((IntKind.u64.wrap (IntKind.i64.wrap (4 * (a2.Kids.length:Int))))+(IntKind.u64.wrap (4294967296 * (IntKind.u64.wrap ((IntKind.u64.wrap y30.1)+(IntKind.u64.wrap (65536 * (IntKind.u64.wrap y30.2)))))))))]:List Int)).bind fun l38=>(Zz (K6 a2 y30) (0,l38)).bind fun (z49:(List Int))=>(Zz (K7 Y1 a0 a2 y30) (0,z49)).bind fun (z61:(List Int))=>some z61) ((Zan a2).bind fun y64=>(Zcl (IntKind.i64.wrap (a2.Kind - 2)) y64).bind fun y65=>(Qb a1 (a0.length:Int) 1 (IntKind.u64.wrap ((IntKind.u64.wrap (IntKind.i64.wrap (a2.Kind - 2)))+(IntKind.u64.wrap (8 * (IntKind.u64.wrap (a2.Kids.length:Int))))))).bind fun y69=>(Zx a0 a1).bind fun x70=>(Zkp 8 (Z9 a0 a1 y69) y65.1).bind fun l73=>some l73))))
noncomputable def Yb:Nat→((List Int)→Int→Zc→Option (List Int))
 | 0=>(fun _ _ _=>none)
 | k+1=>Xc ((Yb k))
noncomputable def Zpw (a0:(List Int)) (a1:Int) (a2:Zc):Option (List Int):=lim fun k=>(Yb k) a0 a1 a2
end Go.Proofs.Ytaddaloondpnkaa
