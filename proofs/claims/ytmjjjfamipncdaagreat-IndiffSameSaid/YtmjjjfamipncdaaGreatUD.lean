/- Part UD of this seat's mirrors: functions of the seat's program, and the plain functions that they are; each theorem bears its own conditions. -/
import Derived.Test.YtmjjjfamipncdaaGreatH26
import Derived.Test.YtmjjjfamipncdaaGreatTy
namespace Go.Proofs.YtmjjjfamipncdaaGreat
open Go.RowKit
set_option linter.unusedVariables false
set_option linter.unusedSimpArgs false
set_option maxRecDepth 100000
set_option maxHeartbeats 4000000
structure Za1 where
 L:(List (List Int))
 Size:Int
 Most:Int
 Used:Int
noncomputable def Zae (a0:Int) (a1:Int):Option Za1 :=
 (cond (decide (a0 < 1)) (some 1) (some a0)).bind fun (z1:Int)=>(cond (decide (a1 < 0)) (some 0) (some a1)).bind fun (z3:Int)=>(cond (decide (131072 < z3)) (some 131072) (some z3)).bind fun (z5:Int)=>some (⟨([]:(List (List Int))),z1,z5,0⟩:Za1)
noncomputable def Xa (a0:Int):Option Int :=
 cond (a0 == 0) (some 0) (cond (a0 == 1) (some 1) (cond (a0 == 2) (some 8) (cond (a0 == 3) (some 16) (cond (a0 == 4) (some 32) (cond (a0 == 5) (some 64) (some (-1)))))))
noncomputable def X5 (y2:Int) (s0_:(Int×Int)):Option ((Int×Int) ⊕ Int) :=
 cond (decide (s0_.2 < y2)) (some (.inl ((IntKind.u64.wrap (Int.tdiv s0_.1 2)),(IntKind.i64.wrap (s0_.2+1))))) (some (.inr s0_.1))
noncomputable def Jp (a0:Int) (a1:Int):Option Bool :=
 (Xa a0).bind fun y2=>cond (decide (y2 < 0)) (some false) ((Z6 (X5 y2) (a1,0)).bind fun (z4:Int)=>some (z4 == 0))
structure Zj where
 Kind:Int
 Words:(List Int)
 Kids:(List Zj)
noncomputable def Jx (J8:(Zj→Int→Option Bool)) (a0:Zj) (a1:Int) (s0_:Int):Option (Int ⊕ (Unit ⊕ Unit)) :=
 cond (decide (s0_ < (a0.Kids.length:Int))) ((Z5 a0.Kids s0_).bind fun x2=>(J8 x2 (IntKind.i64.wrap (a1 - 1))).bind fun y4=>cond (!y4) (some (.inr (.inl ()))) ((cond ((cond (decide (2≤a0.Kind)) (decide (a0.Kind≤7)) false) != (x2.Kind == 10)) (some true) (cond (a0.Kind == 9) (cond (x2.Kind != 1) (some true) (cond (decide (2≤a0.Kind)) (cond (decide (a0.Kind≤7)) ((Z5 x2.Words 0).bind fun x14=>(Jp (IntKind.i64.wrap (a0.Kind - 2)) x14).bind fun y15=>some (cond (cond ((cond (decide (2≤a0.Kind)) (decide (a0.Kind≤7)) false) != (x2.Kind == 10)) true (cond (a0.Kind == 9) (x2.Kind != 1) false)) true (cond (cond (decide (2≤a0.Kind)) (decide (a0.Kind≤7)) false) (!y15) false))) (some (cond (cond ((cond (decide (2≤a0.Kind)) (decide (a0.Kind≤7)) false) != (x2.Kind == 10)) true (cond (a0.Kind == 9) (x2.Kind != 1) false)) true false))) (some (cond (cond ((cond (decide (2≤a0.Kind)) (decide (a0.Kind≤7)) false) != (x2.Kind == 10)) true (cond (a0.Kind == 9) (x2.Kind != 1) false)) true false)))) (cond (decide (2≤a0.Kind)) (cond (decide (a0.Kind≤7)) ((Z5 x2.Words 0).bind fun x16=>(Jp (IntKind.i64.wrap (a0.Kind - 2)) x16).bind fun y17=>some (cond (cond ((cond (decide (2≤a0.Kind)) (decide (a0.Kind≤7)) false) != (x2.Kind == 10)) true (cond (a0.Kind == 9) (x2.Kind != 1) false)) true (cond (cond (decide (2≤a0.Kind)) (decide (a0.Kind≤7)) false) (!y17) false))) (some (cond (cond ((cond (decide (2≤a0.Kind)) (decide (a0.Kind≤7)) false) != (x2.Kind == 10)) true (cond (a0.Kind == 9) (x2.Kind != 1) false)) true false))) (some (cond (cond ((cond (decide (2≤a0.Kind)) (decide (a0.Kind≤7)) false) != (x2.Kind == 10)) true (cond (a0.Kind == 9) (x2.Kind != 1) false)) true false))))).bind fun (z9:Bool)=>cond z9 (some (.inr (.inl ()))) (some (.inl (IntKind.i64.wrap (s0_+1)))))) (some (.inr (.inr ())))
noncomputable def K6 (J8:(Zj→Int→Option Bool)) (a0:Zj) (a1:Int):Option Bool :=
 cond (a0.Kind == 0) (some (cond ((a0.Words.length:Int) == 0) ((a0.Kids.length:Int) == 0) false)) (cond (a0.Kind == 10) (some (cond ((a0.Words.length:Int) == 1) ((a0.Kids.length:Int) == 0) false)) (cond (cond (cond (cond (cond (cond (decide (a0.Kind < 0)) true (decide (10 < a0.Kind))) true (a1 == 0)) true (decide (65536≤(a0.Words.length:Int)))) true (cond (a0.Kind == 1) (decide (65536≤(a0.Kids.length:Int))) false)) true (decide (1048576≤(a0.Kids.length:Int)))) (some false) (cond (cond (decide (1 < a0.Kind)) (decide (0 < (a0.Words.length:Int))) false) (some false) ((Z6 (Jx J8 a0 a1) 0).bind fun (z28:(Unit ⊕ Unit))=>match z28 with | .inl z28=>some false | .inr z28=>some true))))
noncomputable def Qz:Nat→(Zj→Int→Option Bool)
 | 0=>(fun _ _=>none)
 | k+1=>K6 ((Qz k))
noncomputable def Za2 (a0:Zj) (a1:Int):Option Bool:=lim fun k=>(Qz k) a0 a1
noncomputable def Kg (a0:(List Int)) (s0_:Int):Option (Int ⊕ Int) :=
 (cond (decide (0 < s0_)) ((Z5 a0 (IntKind.i64.wrap (s0_ - 1))).bind fun x4=>some (cond (decide (0 < s0_)) (x4 == 0) false)) (some false)).bind fun (z2:Bool)=>cond z2 (some (.inl (IntKind.i64.wrap (s0_ - 1)))) (some (.inr s0_))
noncomputable def Vz (a0:(List Int)):Option (List Int) :=
 (Z6 (Kg a0) (a0.length:Int)).bind fun (z7:Int)=>(Zg9 a0 0 z7).bind fun l10=>(Zf5 8 ([]:List Int) l10).bind fun l11=>some l11
noncomputable def Qn (Ko:(Zj→Option Zj)) (a0:Zj) (s0_:(Int×Int×(List Zj))):Option ((Int×Int×(List Zj)) ⊕ (Int×(List Zj))) :=
 cond (decide (s0_.2.1 < (a0.Kids.length:Int))) (((Z5 a0.Kids s0_.2.1).bind fun x4=>(Ko x4).bind fun y5=>(Zf5 56 s0_.2.2 ([y5]:List Zj)).bind fun l7=>cond (y5.Kind != 0) (some ((IntKind.i64.wrap (s0_.2.1+1)),l7)) (some (s0_.1,l7))).bind fun (z1:(Int×(List Zj)))=>some (.inl (z1.1,(IntKind.i64.wrap (s0_.2.1+1)),z1.2))) (some (.inr (s0_.1,s0_.2.2)))
noncomputable def Vt (Ko:(Zj→Option Zj)) (a0:Zj):Option Zj :=
 cond (a0.Kind == 0) (some (⟨0,[],[]⟩:Zj)) ((Z6 (Qn Ko a0) (0,0,([]:List Zj))).bind fun (z10:(Int×(List Zj)))=>cond (a0.Kind == 1) ((Vz a0.Words).bind fun y14=>(Zg9 z10.2 0 z10.1).bind fun l15=>some (⟨1,y14,l15⟩:Zj)) ((Zf5 8 ([]:List Int) a0.Words).bind fun l17=>some (⟨a0.Kind,l17,z10.2⟩:Zj)))
noncomputable def Xo:Nat→(Zj→Option Zj)
 | 0=>(fun _=>none)
 | k+1=>Vt ((Xo k))
noncomputable def Zfe (a0:Zj):Option Zj:=lim fun k=>(Xo k) a0
noncomputable def Jz (a0:Zj) (s0_:(Int×Int×Int)):Option ((Int×Int×Int) ⊕ (Int×Int)) :=
 cond (decide (s0_.2.2 < (a0.Kids.length:Int))) ((((Z5 a0.Kids s0_.2.2).bind fun x5=>cond (decide (s0_.1 < (x5.Words.length:Int))) ((Z5 a0.Kids s0_.2.2).bind fun x7=>some (x7.Words.length:Int)) (some s0_.1)).bind fun (z2:Int)=>(Z5 a0.Kids s0_.2.2).bind fun x12=>cond (decide (s0_.2.1 < (x12.Kids.length:Int))) ((Z5 a0.Kids s0_.2.2).bind fun x14=>some (z2,(x14.Kids.length:Int))) (some (z2,s0_.2.1))).bind fun (z1:(Int×Int))=>some (.inl (z1.1,z1.2,(IntKind.i64.wrap (s0_.2.2+1))))) (some (.inr (s0_.1,s0_.2.1)))
noncomputable def U1 (a0:Zj):Option (Int×Int) :=
 (Z6 (Jz a0) (0,0,0)).bind fun (z18:(Int×Int))=>some (z18.1,z18.2)
noncomputable def Vy (a0:Int) (a1:Int):Option Int :=
 (Xa a0).bind fun y2=>cond (cond (cond (decide (y2 < 1)) true (decide (a1 < 0))) true (decide (1099511627776 < a1))) (some 0) ((Xa a0).bind fun y5=>(Xz (y5≠0)).bind fun u6=>(Xz ((IntKind.i64.wrap (Int.tdiv 64 y5))≠0)).bind fun u8=>cond (decide (0 < (Int.tmod a1 (IntKind.i64.wrap (Int.tdiv 64 y5))))) ((Xz ((IntKind.i64.wrap (Int.tdiv 64 y5))≠0)).bind fun u10=>some (IntKind.i64.wrap ((IntKind.i64.wrap (Int.tdiv a1 (IntKind.i64.wrap (Int.tdiv 64 y5))))+1))) ((Xz ((IntKind.i64.wrap (Int.tdiv 64 y5))≠0)).bind fun u12=>some (IntKind.i64.wrap (Int.tdiv a1 (IntKind.i64.wrap (Int.tdiv 64 y5))))))
noncomputable def Uh (y2:Int) (s0_:(Int×(List Int))) (s1_:(Int×Int)):Option ((Int×Int) ⊕ Int) :=
 cond (decide (s1_.2 < (Int.tmod (IntKind.i64.wrap (s0_.1 * y2)) 64))) (some (.inl ((IntKind.u64.wrap (s1_.1 * 2)),(IntKind.i64.wrap (s1_.2+1))))) (some (.inr s1_.1))
noncomputable def Y6 (a0:Int) (a1:(List Int)) (y2:Int) (s0_:(Int×(List Int))):Option ((Int×(List Int)) ⊕ (Unit ⊕ (List Int))) :=
 cond (decide (s0_.1 < (a1.length:Int))) (((Z5 a1 s0_.1).bind fun x9=>(Jp a0 x9).bind fun y11=>cond (!y11) (some (.inr ())) ((Z6 (Uh y2 s0_) (x9,0)).bind fun (z13:Int)=>cond (decide (0 < y2)) ((Z5 s0_.2 (IntKind.i64.wrap (Int.tdiv (IntKind.i64.wrap (s0_.1 * y2)) 64))).bind fun x14=>some (.inl (Xs s0_.2 (IntKind.i64.wrap (Int.tdiv (IntKind.i64.wrap (s0_.1 * y2)) 64)) (IntKind.u64.wrap (x14+z13))))) (some (.inl s0_.2)))).bind fun (z7:((List Int) ⊕ Unit))=>match z7 with | .inl z7=>some (.inl ((IntKind.i64.wrap (s0_.1+1)),z7)) | .inr z7=>some (.inr (.inl ()))) (some (.inr (.inr s0_.2)))
noncomputable def Uq (a0:Int) (a1:(List Int)):Option ((List Int)×Bool) :=
 (Xa a0).bind fun y2=>cond (decide (y2 < 0)) (some (([]:(List Int)),false)) ((Vy a0 (a1.length:Int)).bind fun y5=>(Znf 8 y5 (0:Int)).bind fun l6=>(Z6 (Y6 a0 a1 y2) (0,l6)).bind fun (z20:(Unit ⊕ (List Int)))=>match z20 with | .inl z20=>some (([]:(List Int)),false) | .inr z20=>some (z20,true))
noncomputable def Gm (a0:Int) (a1:Int) (a2:Int) (a3:Int):Option Int :=
 (cond (decide ((IntKind.i64.wrap ((IntKind.i64.wrap (a1 - a0)) - 1)) < 0)) (some (IntKind.i64.wrap ((IntKind.i64.wrap ((IntKind.i64.wrap (a1 - a0)) - 1))+1073741824))) (some (IntKind.i64.wrap ((IntKind.i64.wrap (a1 - a0)) - 1)))).bind fun (z1:Int)=>some (IntKind.u64.wrap ((IntKind.u64.wrap ((IntKind.u64.wrap (IntKind.i64.wrap (4 * z1)))+a2))+(IntKind.u64.wrap (a3 * 4294967296))))
noncomputable def Xh (a0:List Int):Option (List Int) :=
 Zf5 8 ([]:List Int) a0
noncomputable def K3 (a0:(List (List Int))) (s0_:(Int×(List (List Int)))):Option ((Int×(List (List Int))) ⊕ (List (List Int))) :=
 cond (decide (s0_.1 < (a0.length:Int))) ((Z5 a0 s0_.1).bind fun x4=>(Xh x4).bind fun y5=>(Z5 s0_.2 s0_.1).bind fun x6=>some (.inl ((IntKind.i64.wrap (s0_.1+1)),(Xs s0_.2 s0_.1 y5)))) (some (.inr s0_.2))
noncomputable def Zau (a0:(List (List Int))):Option (List (List Int)) :=
 (Znf 24 (a0.length:Int) ([]:(List Int))).bind fun l2=>(Z6 (K3 a0) (0,l2)).bind fun (z9:(List (List Int)))=>some z9
structure Zp where
 segments:(List (List Int))
 size:Int
 left:Int
noncomputable def Zeq (a0:(List (List Int))):Option (Option Zp) :=
 (Zau a0).bind fun y2=>some (some (⟨y2,0,0⟩:Zp))
structure Yd where
 Depth:Int
 Weight:Int
 MaxD:Int
 MaxOut:Int
noncomputable def K9 (a0:Yd):Option Yd :=
 (cond (decide (3000 < a0.Weight)) (some 3000) (some a0.Weight)).bind fun (z1:Int)=>some (⟨a0.Depth,z1,a0.MaxD,a0.MaxOut⟩:Yd)
noncomputable def Qd (a0:Int) (a1:Int):Option Int :=
 cond (decide (a0 < 0)) (some 0) (cond (decide (a1 < a0)) (some a1) (some a0))
noncomputable def Kt (a0:Yd):Option Yd :=
 (Qd a0.Depth 64).bind fun y5=>(Qd a0.Weight 65536).bind fun y6=>(Qd a0.MaxD 4096).bind fun y7=>(Qd a0.MaxOut 131072).bind fun y8=>some (⟨y5,y6,y7,y8⟩:Yd)
noncomputable def Jf (a0:(List (List Int))) (a1:Int) (a2:Int):Option Bool :=
 (cond (decide (0≤a1)) (cond (decide (a1 < (a0.length:Int))) (cond (decide (0≤a2)) ((Z5 a0 a1).bind fun x4=>some (cond (cond (cond (decide (0≤a1)) (decide (a1 < (a0.length:Int))) false) (decide (0≤a2)) false) (decide (a2 < (x4.length:Int))) false)) (some false)) (some false)) (some false)).bind fun (z2:Bool)=>some z2
noncomputable def Vj (a1:Int) (s0_:(Int×Int)):Option ((Int×Int) ⊕ Int) :=
 cond (decide (s0_.2 < a1)) (some (.inl ((IntKind.u64.wrap (Int.tdiv s0_.1 2)),(IntKind.i64.wrap (s0_.2+1))))) (some (.inr s0_.1))
noncomputable def Vk (a2:Int) (s1_:(Int×Int×Int×Int)):Option ((Int×Int×Int×Int) ⊕ Int) :=
 cond (decide (s1_.2.2.2 < a2)) ((cond ((Int.tmod s1_.1 2) == 1) (some (IntKind.i64.wrap (s1_.2.1+s1_.2.2.1))) (some s1_.2.1)).bind fun (z3:Int)=>some (.inl ((IntKind.u64.wrap (Int.tdiv s1_.1 2)),z3,(IntKind.i64.wrap (2 * s1_.2.2.1)),(IntKind.i64.wrap (s1_.2.2.2+1))))) (some (.inr s1_.2.1))
noncomputable def Z7 (a0:Int) (a1:Int) (a2:Int):Option Int :=
 (Z6 (Vj a1) (a0,0)).bind fun (z2:Int)=>(Z6 (Vk a2) (z2,0,1,0)).bind fun (z6:Int)=>some z6
structure Z4 where
 Kind:Int
 Off:Int
 Data:Int
 Ptrs:Int
 Code:Int
 Count:Int
 Segment:Int
 Double:Bool
noncomputable def Xd (a0:Int):Option Z4 :=
 cond (a0 == 0) (some (⟨0,0,0,0,0,0,0,false⟩:Z4)) ((Z7 a0 2 30).bind fun y2=>(cond (decide (536870912≤y2)) (some (IntKind.i64.wrap (y2 - 1073741824))) (some y2)).bind fun (z3:Int)=>(Z7 a0 0 2).bind fun y6=>cond (y6 == 0) ((Z7 a0 32 16).bind fun y9=>(Z7 a0 48 16).bind fun y10=>some (⟨1,z3,y9,y10,0,0,0,false⟩:Z4)) (cond (y6 == 1) ((Z7 a0 32 3).bind fun y13=>(Z7 a0 35 29).bind fun y14=>some (⟨2,z3,0,0,y13,y14,0,false⟩:Z4)) (cond (y6 == 2) ((Z7 a0 3 29).bind fun y18=>(Z7 a0 32 32).bind fun y19=>(Z7 a0 2 1).bind fun y20=>some (⟨3,y18,0,0,0,0,y19,(y20 == 1)⟩:Z4)) (some (⟨4,0,0,0,0,0,0,false⟩:Z4)))))
noncomputable def Ja (a0:Z4):Option Int :=
 cond (a0.Kind == 4) (some 9) (cond (cond (a0.Kind != 1) (a0.Kind != 2) false) (some 8) (some 0))
noncomputable def Vb (a0:Z4):Option Int :=
 cond (a0.Kind == 1) (some (IntKind.i64.wrap (a0.Data+a0.Ptrs))) (cond (a0.Kind != 2) (some (-1)) (cond (a0.Code == 7) (some (IntKind.i64.wrap (a0.Count+1))) (cond (cond (cond (cond (decide (a0.Code < 0)) true (decide (6 < a0.Code))) true (decide (a0.Count < 0))) true (decide (536870912≤a0.Count))) (some (-1)) ((cond (a0.Code == 0) (some (.inr ())) (cond (a0.Code == 1) (some (.inl 64)) (cond (a0.Code == 2) (some (.inl 8)) (cond (a0.Code == 3) (some (.inl 4)) (cond (a0.Code == 4) (some (.inl 2)) (some (.inl 1))))))).bind fun (z1:(Int ⊕ Unit))=>match z1 with | .inl z1=>(Xz (z1≠0)).bind fun u8=>cond (decide (0 < (Int.tmod a0.Count z1))) ((Xz (z1≠0)).bind fun u10=>some (IntKind.i64.wrap ((IntKind.i64.wrap (Int.tdiv a0.Count z1))+1))) ((Xz (z1≠0)).bind fun u12=>some (IntKind.i64.wrap (Int.tdiv a0.Count z1))) | .inr z1=>some 0))))
structure Ya where
 P:Z4
 Segment:Int
 At:Int
noncomputable def Jb (a0:(List (List Int))) (a1:Ya):Option (Ya×Int) :=
 (Vb a1.P).bind fun y2=>(cond (decide (a1.Segment < 0)) (some true) (cond (decide ((a0.length:Int)≤a1.Segment)) (some true) (cond (decide (a1.At < 0)) (some true) ((Z5 a0 a1.Segment).bind fun x8=>cond (decide ((x8.length:Int) < a1.At)) (some true) (some (cond (cond (cond (cond (decide (a1.Segment < 0)) true (decide ((a0.length:Int)≤a1.Segment))) true (decide (a1.At < 0))) true (decide ((x8.length:Int) < a1.At))) true (decide ((IntKind.i64.wrap ((x8.length:Int) - a1.At)) < y2)))))))).bind fun (z5:Bool)=>cond z5 (some ((⟨⟨0,0,0,0,0,0,0,false⟩,0,0⟩:Ya),7)) (some ((⟨⟨a1.P.Kind,0,a1.P.Data,a1.P.Ptrs,a1.P.Code,a1.P.Count,a1.P.Segment,a1.P.Double⟩,a1.Segment,a1.At⟩:Ya),0))
noncomputable def Jt (a0:(List (List Int))) (a1:Int) (a2:Int):Option (Ya×Int) :=
 (Jf a0 a1 a2).bind fun y2=>cond (!y2) (some ((⟨⟨0,0,0,0,0,0,0,false⟩,0,0⟩:Ya),7)) ((Z5 a0 a1).bind fun x6=>(Z5 x6 a2).bind fun x7=>(Xd x7).bind fun y8=>cond (y8.Kind == 0) (some ((⟨⟨0,0,0,0,0,0,0,false⟩,0,0⟩:Ya),0)) (cond (cond (y8.Kind == 3) y8.Double false) (((Jf a0 y8.Segment y8.Off).bind fun y14=>cond y14 ((Jf a0 y8.Segment (IntKind.i64.wrap (y8.Off+1))).bind fun y15=>some (cond (!y14) true (!y15))) (some true)).bind fun (z11:Bool)=>cond z11 (some ((⟨⟨0,0,0,0,0,0,0,false⟩,0,0⟩:Ya),7)) ((Z5 a0 y8.Segment).bind fun x17=>(Z5 x17 y8.Off).bind fun x18=>(Xd x18).bind fun y19=>(Z5 x17 (IntKind.i64.wrap (y8.Off+1))).bind fun x21=>(Xd x21).bind fun y22=>cond (cond (y19.Kind != 3) true y19.Double) (some ((⟨⟨0,0,0,0,0,0,0,false⟩,0,0⟩:Ya),8)) ((Ja y22).bind fun y24=>(cond (cond (y24 == 0) (y22.Off != 0) false) (some 8) (some y24)).bind fun (z25:Int)=>cond (z25 != 0) (some ((⟨⟨0,0,0,0,0,0,0,false⟩,0,0⟩:Ya),z25)) ((Jb a0 (⟨y22,y19.Segment,y19.Off⟩:Ya)).bind fun y28=>some (y28.1,y28.2))))) ((cond (y8.Kind == 3) ((Jf a0 y8.Segment y8.Off).bind fun y34=>cond (!y34) (some (.inr ())) ((Z5 a0 y8.Segment).bind fun x35=>(Z5 x35 y8.Off).bind fun x36=>(Xd x36).bind fun y37=>some (.inl (y8.Segment,y8.Off,y37.Kind,y37.Off,y37.Data,y37.Ptrs,y37.Code,y37.Count,y37.Segment,y37.Double)))) (some (.inl (a1,a2,y8.Kind,y8.Off,y8.Data,y8.Ptrs,y8.Code,y8.Count,y8.Segment,y8.Double)))).bind fun (z32:((Int×Int×Int×Int×Int×Int×Int×Int×Int×Bool) ⊕ Unit))=>match z32 with | .inl z32=>(Ja (⟨z32.2.2.1,z32.2.2.2.1,z32.2.2.2.2.1,z32.2.2.2.2.2.1,z32.2.2.2.2.2.2.1,z32.2.2.2.2.2.2.2.1,z32.2.2.2.2.2.2.2.2.1,z32.2.2.2.2.2.2.2.2.2⟩:Z4)).bind fun y41=>cond (y41 != 0) (some ((⟨⟨0,0,0,0,0,0,0,false⟩,0,0⟩:Ya),y41)) ((Jb a0 (⟨⟨z32.2.2.1,z32.2.2.2.1,z32.2.2.2.2.1,z32.2.2.2.2.2.1,z32.2.2.2.2.2.2.1,z32.2.2.2.2.2.2.2.1,z32.2.2.2.2.2.2.2.2.1,z32.2.2.2.2.2.2.2.2.2⟩,z32.1,(IntKind.i64.wrap ((IntKind.i64.wrap (z32.2.1+1))+z32.2.2.2.1))⟩:Ya)).bind fun y43=>some (y43.1,y43.2)) | .inr z32=>some ((⟨⟨0,0,0,0,0,0,0,false⟩,0,0⟩:Ya),7))))
structure Zs where
 Kind:Int
 S:Int
 At:Int
 Data:Int
 Ptrs:Int
 Count:Int
 N:Int
noncomputable def Kq (a0:(List (List Int))) (a1:Int) (a2:Int):Option (Zs×Int) :=
 (Jt a0 a1 a2).bind fun y2=>cond (cond (y2.2 != 0) true (y2.1.P.Kind == 0)) (some ((⟨0,0,0,0,0,0,0⟩:Zs),y2.2)) (cond (y2.1.P.Kind == 1) (some ((⟨1,y2.1.Segment,y2.1.At,y2.1.P.Data,y2.1.P.Ptrs,0,0⟩:Zs),0)) (cond (decide (y2.1.P.Code < 7)) (some ((⟨(IntKind.i64.wrap (2+y2.1.P.Code)),y2.1.Segment,y2.1.At,0,0,y2.1.P.Count,0⟩:Zs),0)) ((Z5 a0 y2.1.Segment).bind fun x5=>(Z5 x5 y2.1.At).bind fun x6=>(Xd x6).bind fun y8=>cond (cond (cond (cond (x6 != 0) (y8.Kind != 1) false) true (decide (y8.Off < 0))) true (decide (y2.1.P.Count < (IntKind.i64.wrap (y8.Off * (IntKind.i64.wrap (y8.Data+y8.Ptrs))))))) (some ((⟨0,0,0,0,0,0,0⟩:Zs),8)) (some ((⟨9,y2.1.Segment,(IntKind.i64.wrap (y2.1.At+1)),y8.Data,y8.Ptrs,y8.Off,0⟩:Zs),0)))))
noncomputable def X8 (a0:Zs) (a1:(List (List Int))):Option (List Int) :=
 cond (a0.Kind == 10) (some ([a0.N]:List Int)) (cond (a0.Kind != 1) (some ([]:(List Int))) ((Z5 a1 a0.S).bind fun x4=>(Zg9 x4 a0.At (IntKind.i64.wrap (a0.At+a0.Data))).bind fun l5=>(Zf5 8 ([]:List Int) l5).bind fun l6=>some l6))
noncomputable def Qf (a0:Zs):Option Int :=
 cond (a0.Kind == 1) (some a0.Ptrs) (some a0.Count)
noncomputable def Jr (a1:Int) (s0_:(Int×Int)):Option ((Int×Int) ⊕ Int) :=
 cond (decide (s0_.2 < (Int.tmod a1 64))) (some (.inl ((IntKind.u64.wrap (Int.tdiv s0_.1 2)),(IntKind.i64.wrap (s0_.2+1))))) (some (.inr s0_.1))
noncomputable def Uo (a0:(List Int)) (a1:Int):Option Int :=
 cond (cond (decide (a1 < 0)) true (decide ((a0.length:Int)≤(IntKind.i64.wrap (Int.tdiv a1 64))))) (some 0) ((Z5 a0 (IntKind.i64.wrap (Int.tdiv a1 64))).bind fun x2=>(Z6 (Jr a1) (x2,0)).bind fun (z4:Int)=>some (Int.tmod z4 2))
noncomputable def Js (a0:(List Int)) (a2:Int) (y2:Int) (s0_:(Int×Int)):Option ((Int×Int) ⊕ Int) :=
 cond (decide (0≤s0_.2)) ((Uo a0 (IntKind.i64.wrap ((IntKind.i64.wrap (a2 * y2))+s0_.2))).bind fun y3=>some (.inl ((IntKind.u64.wrap ((IntKind.u64.wrap (s0_.1 * 2))+y3)),(IntKind.i64.wrap (s0_.2 - 1))))) (some (.inr s0_.1))
noncomputable def Up (a0:(List Int)) (a1:Int) (a2:Int):Option Int :=
 (Xa a1).bind fun y2=>cond (cond (cond (decide (y2 < 1)) true (decide (a2 < 0))) true (decide (1099511627776 < a2))) (some 0) ((Z6 (Js a0 a2 y2) (0,(IntKind.i64.wrap (y2 - 1)))).bind fun (z5:Int)=>some z5)
noncomputable def Jg (a0:Zs) (a1:(List (List Int))) (a2:Int):Option (Zs×Int) :=
 (cond (decide (a2 < 0)) (some true) ((Qf a0).bind fun y4=>some (cond (decide (a2 < 0)) true (decide (y4≤a2))))).bind fun (z2:Bool)=>cond z2 (some ((⟨0,0,0,0,0,0,0⟩:Zs),0)) (cond (a0.Kind == 1) ((Kq a1 a0.S (IntKind.i64.wrap ((IntKind.i64.wrap (a0.At+a0.Data))+a2))).bind fun y7=>some (y7.1,y7.2)) (cond (a0.Kind == 8) ((Kq a1 a0.S (IntKind.i64.wrap (a0.At+a2))).bind fun y9=>some (y9.1,y9.2)) (cond (a0.Kind == 9) (some ((⟨1,a0.S,(IntKind.i64.wrap (a0.At+(IntKind.i64.wrap (a2 * (IntKind.i64.wrap (a0.Data+a0.Ptrs)))))),a0.Data,a0.Ptrs,0,0⟩:Zs),0)) ((Z5 a1 a0.S).bind fun x13=>(Zg9 x13 a0.At (x13.length:Int)).bind fun l14=>(Up l14 (IntKind.i64.wrap (a0.Kind - 2)) a2).bind fun y15=>some ((⟨10,0,0,0,0,0,y15⟩:Zs),0)))))
noncomputable def Je (Yn:((List (List Int))→Zs→Int→Int→Option (Zj×Int×Int))) (X1:((List (List Int))→Zs→Int→Int→Option (Zj×Int×Int))) (a0:(List (List Int))) (a1:Zs) (a2:Int) (s0_:(Int×Int×(List Zj))):Option ((Int×Int×(List Zj)) ⊕ ((Int×Int×(List Zj)) ⊕ (Int×(List Zj)))) :=
 (Qf a1).bind fun y10=>cond (decide (s0_.2.1 < y10)) ((Jg a1 a0 s0_.2.1).bind fun y12=>cond (y12.2 != 0) (some (.inr (.inl (s0_.1,y12.2,s0_.2.2)))) ((X8 y12.1 a0).bind fun y14=>(cond (a1.Kind == 9) ((X1 a0 y12.1 (IntKind.i64.wrap (a2 - 2)) s0_.1).bind fun y16=>some (y16.2.1,y16.2.2,y16.1.Kind,y16.1.Words,y16.1.Kids)) (cond (cond (a1.Kind == 1) true (a1.Kind == 8)) ((Yn a0 y12.1 (IntKind.i64.wrap (a2 - 1)) s0_.1).bind fun y17=>some (y17.2.1,y17.2.2,y17.1.Kind,y17.1.Words,y17.1.Kids)) (some (s0_.1,y12.2,y12.1.Kind,y14,([]:(List Zj)))))).bind fun (z15:(Int×Int×Int×(List Int)×(List Zj)))=>cond (z15.2.1 != 0) (some (.inr (.inl (z15.1,z15.2.1,s0_.2.2)))) ((Zf5 56 s0_.2.2 ([(⟨z15.2.2.1,z15.2.2.2.1,z15.2.2.2.2⟩:Zj)]:List Zj)).bind fun l20=>some (.inl (z15.1,(IntKind.i64.wrap (s0_.2.1+1)),l20))))) (some (.inr (.inr (s0_.1,s0_.2.2))))
noncomputable def Jd (Yn:((List (List Int))→Zs→Int→Int→Option (Zj×Int×Int))) (X1:((List (List Int))→Zs→Int→Int→Option (Zj×Int×Int))) (a0:(List (List Int))) (a1:Zs) (a2:Int) (a3:Int):Option (Zj×Int×Int) :=
 (X8 a1 a0).bind fun y2=>cond (a1.Kind == 0) (some ((⟨a1.Kind,y2,[]⟩:Zj),a3,0)) (cond (cond (decide (a2 < 1)) true (cond (cond (a1.Kind == 9) (decide (0 < a1.Count)) false) (decide (a2 < 2)) false)) (some ((⟨a1.Kind,y2,[]⟩:Zj),a3,3)) ((Qf a1).bind fun y4=>(cond (a1.Kind == 1) (some (IntKind.i64.wrap ((IntKind.i64.wrap (1+a1.Data))+a1.Ptrs))) (some (IntKind.i64.wrap (1+y4)))).bind fun (z5:Int)=>(cond (a1.Kind == 9) (some (IntKind.i64.wrap (1+(IntKind.i64.wrap (a1.Count * (IntKind.i64.wrap ((IntKind.i64.wrap (1+a1.Data))+a1.Ptrs))))))) (some z5)).bind fun (z7:Int)=>cond (decide (a3 < z7)) (some ((⟨a1.Kind,y2,[]⟩:Zj),a3,3)) ((Z6 (Je Yn X1 a0 a1 a2) ((IntKind.i64.wrap (a3 - z7)),0,([]:List Zj))).bind fun (z24:((Int×Int×(List Zj)) ⊕ (Int×(List Zj))))=>match z24 with | .inl z24=>some ((⟨a1.Kind,y2,z24.2.2⟩:Zj),z24.1,z24.2.1) | .inr z24=>some ((⟨a1.Kind,y2,z24.2⟩:Zj),z24.1,0))))
noncomputable def Kb (Yn:((List (List Int))→Zs→Int→Int→Option (Zj×Int×Int))) (a0:(List (List Int))) (a1:Zs) (a2:Int) (s0_:(Int×Int×(List Zj))):Option ((Int×Int×(List Zj)) ⊕ ((Int×Int×(List Zj)) ⊕ (Int×(List Zj)))) :=
 cond (decide (s0_.2.1 < a1.Ptrs)) ((Jg a1 a0 s0_.2.1).bind fun y4=>cond (y4.2 != 0) (some (.inr (.inl (s0_.1,y4.2,s0_.2.2)))) ((Yn a0 y4.1 a2 s0_.1).bind fun y6=>cond (y6.2.2 != 0) (some (.inr (.inl (y6.2.1,y6.2.2,s0_.2.2)))) ((Zf5 56 s0_.2.2 ([y6.1]:List Zj)).bind fun l7=>some (.inl (y6.2.1,(IntKind.i64.wrap (s0_.2.1+1)),l7))))) (some (.inr (.inr (s0_.1,s0_.2.2))))
noncomputable def Kk (Yn:((List (List Int))→Zs→Int→Int→Option (Zj×Int×Int))) (X1:((List (List Int))→Zs→Int→Int→Option (Zj×Int×Int))) (a0:(List (List Int))) (a1:Zs) (a2:Int) (a3:Int):Option (Zj×Int×Int) :=
 (X8 a1 a0).bind fun y2=>(Z6 (Kb Yn a0 a1 a2) (a3,0,([]:List Zj))).bind fun (z11:((Int×Int×(List Zj)) ⊕ (Int×(List Zj))))=>match z11 with | .inl z11=>some ((⟨1,y2,z11.2.2⟩:Zj),z11.1,z11.2.1) | .inr z11=>some ((⟨1,y2,z11.2⟩:Zj),z11.1,0)
noncomputable def Yi:Nat→(((List (List Int))→Zs→Int→Int→Option (Zj×Int×Int))×((List (List Int))→Zs→Int→Int→Option (Zj×Int×Int)))
 | 0=>((fun _ _ _ _=>none),(fun _ _ _ _=>none))
 | k+1=>(Jd ((Yi k).1) ((Yi k).2),Kk ((Yi k).1) ((Yi k).2))
noncomputable def Gz (a0:(List (List Int))) (a1:Zs) (a2:Int) (a3:Int):Option (Zj×Int×Int):=lim fun k=>(Yi k).1 a0 a1 a2 a3
noncomputable def Ju (a0:(List (List Int))) (a1:Yd):Option (Zj×Int×Int) :=
 (Kt a1).bind fun y2=>(Kq a0 0 0).bind fun y4=>cond (y4.2 != 0) (some ((⟨0,[],[]⟩:Zj),0,y4.2)) ((Gz a0 y4.1 y2.Depth y2.Weight).bind fun y6=>cond (y6.2.2 != 0) (some ((⟨0,[],[]⟩:Zj),0,y6.2.2)) (some (y6.1,(IntKind.i64.wrap (y2.Weight - y6.2.1)),0)))
noncomputable def Xy (Jm:(Zj→Int→Int→Option Int)) (a0:Zj) (a1:Int) (s0_:(Int×Int)):Option ((Int×Int) ⊕ Int) :=
 cond (cond (decide (s0_.2 < (a0.Kids.length:Int))) (decide (0≤s0_.1)) false) ((Z5 a0.Kids s0_.2).bind fun x1=>(Jm x1 (IntKind.i64.wrap (a1 - 1)) s0_.1).bind fun y2=>some (.inl (y2,(IntKind.i64.wrap (s0_.2+1))))) (some (.inr s0_.1))
noncomputable def X4 (Jm:(Zj→Int→Int→Option Int)) (a0:Zj) (a1:Int) (a2:Int):Option Int :=
 cond (cond (a1 == 0) true (decide ((IntKind.i64.wrap ((IntKind.i64.wrap (a2 - 1)) - (a0.Words.length:Int))) < 0))) (some (-1)) ((Z6 (Xy Jm a0 a1) ((IntKind.i64.wrap ((IntKind.i64.wrap (a2 - 1)) - (a0.Words.length:Int))),0)).bind fun (z4:Int)=>some z4)
noncomputable def Yh:Nat→(Zj→Int→Int→Option Int)
 | 0=>(fun _ _ _=>none)
 | k+1=>X4 ((Yh k))
noncomputable def Gy (a0:Zj) (a1:Int) (a2:Int):Option Int:=lim fun k=>(Yh k) a0 a1 a2
noncomputable def Va (a0:Zj):Option Bool :=
 (Gy a0 70 400).bind fun y2=>some (decide (0≤y2))
noncomputable def Gl (a0:(Option Zp)):Option Int :=
 cond (Option.isNone a0) (some 0) ((a0).bind fun x4=>some (x4.segments.length:Int))
noncomputable def Jq (a0:(Option Zp)) (a1:Int):Option Bool :=
 (cond (decide (0≤a1)) ((Gl a0).bind fun y4=>some (cond (decide (0≤a1)) (decide (a1 < y4)) false)) (some false)).bind fun (z2:Bool)=>some z2
noncomputable def J5 (a0:(Option Zp)) (a1:Int):Option Int :=
 (Jq a0 a1).bind fun y2=>cond (!y2) (some 0) ((a0).bind fun x5=>(Z5 x5.segments a1).bind fun x6=>some (x6.length:Int))
noncomputable def Jo (a0:(Option Zp)) (a1:Int) (a2:Int) (a3:Int):Option Bool :=
 ((Jq a0 a1).bind fun y8=>cond y8 (cond (decide (0≤a2)) (cond (decide (0≤a3)) ((J5 a0 a1).bind fun y9=>cond (decide (a3≤y9)) ((J5 a0 a1).bind fun y10=>some (cond (cond (cond (cond y8 (decide (0≤a2)) false) (decide (0≤a3)) false) (decide (a3≤y9)) false) (decide (a2≤(IntKind.i64.wrap (y10 - a3)))) false)) (some false)) (some false)) (some false)) (some false)).bind fun (z4:Bool)=>some z4
noncomputable def Qk (a0:(Option Zp)) (a1:Int) (a2:Int):Option (Int×Bool) :=
 (Jo a0 a1 a2 1).bind fun y2=>cond (!y2) (some (0,false)) ((a0).bind fun x6=>(Z5 x6.segments a1).bind fun x7=>(Z5 x7 a2).bind fun x8=>some (x8,true))
noncomputable def Zb0 (a0:Int):Option Int :=
 some (IntKind.i64.wrap (Int.fdiv (IntKind.i32.wrap (IntKind.u32.wrap a0)) (2 ^ min (Int.toNat 2) 32)))
noncomputable def Qe (a0:Int) (a1:Int) (a2:Int):Option Int :=
 (Xz (0≤a1)).bind fun u3=>(Xz (0≤a2)).bind fun u4=>some (IntKind.i64.wrap (IntKind.u64.wrap (Vw .u64 (Int.fdiv a0 (2 ^ min (Int.toNat a1) 64)) (IntKind.u64.wrap ((IntKind.u64.wrap (1 * 2 ^ min (Int.toNat a2) 64)) - 1)))))
noncomputable def Ka (a0:Int):Option Z4 :=
 cond (a0 == 0) (some (⟨0,0,0,0,0,0,0,false⟩:Z4)) (cond ((IntKind.u64.wrap (Vw .u64 a0 3)) == 0) ((Zb0 a0).bind fun y4=>(Qe a0 32 16).bind fun y5=>(Qe a0 48 16).bind fun y6=>some (⟨1,y4,y5,y6,0,0,0,false⟩:Z4)) (cond ((IntKind.u64.wrap (Vw .u64 a0 3)) == 1) ((Zb0 a0).bind fun y10=>(Qe a0 32 3).bind fun y11=>(Qe a0 35 29).bind fun y12=>some (⟨2,y10,0,0,y11,y12,0,false⟩:Z4)) (cond ((IntKind.u64.wrap (Vw .u64 a0 3)) == 2) ((Qe a0 3 29).bind fun y15=>(Qe a0 32 32).bind fun y16=>some (⟨3,y15,0,0,0,0,y16,((IntKind.u64.wrap (Vw .u64 (Int.fdiv a0 (2 ^ min (Int.toNat 2) 64)) 1)) == 1)⟩:Z4)) (some (⟨4,0,0,0,0,0,0,false⟩:Z4)))))
noncomputable def K8 (a0:(Option Zp)) (a1:Int) (a2:Int) (a3:Int):Option ((List Int)×Bool) :=
 (Jo a0 a1 a2 a3).bind fun y2=>cond (!y2) (some (([]:(List Int)),false)) ((a0).bind fun x7=>(Z5 x7.segments a1).bind fun x8=>(Zg9 x8 a2 (IntKind.i64.wrap (a2+a3))).bind fun l9=>(Xh l9).bind fun y10=>some (y10,true))
noncomputable def Zc8 (a0:Int):Option Int :=
 ((some (⟨[0,1,8,16,32,64,64],rfl⟩:(Arr Int 7)))).bind fun y6=>((some (⟨[0,0,0,0,0,0,0],rfl⟩:(Arr Int 7)))).bind fun y8=>(Z5 y6.1 a0).bind fun x12=>some x12
noncomputable def U8 (a0:Z4):Option (Int×Bool) :=
 cond (a0.Kind == 1) (some ((IntKind.i64.wrap (a0.Data+a0.Ptrs)),true)) (cond (cond (a0.Kind == 2) (a0.Code == 7) false) (some ((IntKind.i64.wrap (a0.Count+1)),true)) (cond (cond (cond (cond (cond (a0.Kind == 2) (decide (0≤a0.Code)) false) (decide (a0.Code < 7)) false) (decide (0≤a0.Count)) false) (decide (a0.Count≤536870911)) false) ((Zc8 a0.Code).bind fun y2=>some ((IntKind.i64.wrap (Int.tdiv (IntKind.i64.wrap ((IntKind.i64.wrap (a0.Count * y2))+63)) 64)),true)) (some (0,false))))
structure Xg where
 P:Z4
 Segment:Int
 At:Int
noncomputable def U3 (a0:(Option Zp)) (a1:Z4) (a2:Int) (a3:Int):Option (Xg×Int) :=
 cond (a1.Kind == 4) (some ((⟨⟨0,0,0,0,0,0,0,false⟩,0,0⟩:Xg),9)) ((U8 a1).bind fun y2=>cond (!y2.2) (some ((⟨⟨0,0,0,0,0,0,0,false⟩,0,0⟩:Xg),8)) ((Jo a0 a2 a3 y2.1).bind fun y4=>cond (!y4) (some ((⟨⟨0,0,0,0,0,0,0,false⟩,0,0⟩:Xg),7)) (some ((⟨⟨a1.Kind,0,a1.Data,a1.Ptrs,a1.Code,a1.Count,a1.Segment,a1.Double⟩,a2,a3⟩:Xg),0))))
noncomputable def Zby (a0:(Option Zp)) (a1:Int) (a2:Int):Option (Xg×Int) :=
 (K8 a0 a1 a2 2).bind fun y2=>cond (!y2.2) (some ((⟨⟨0,0,0,0,0,0,0,false⟩,0,0⟩:Xg),7)) ((Z5 y2.1 0).bind fun x3=>(Ka x3).bind fun y4=>(Z5 y2.1 1).bind fun x5=>(Ka x5).bind fun y6=>cond (cond (y4.Kind != 3) true y4.Double) (some ((⟨⟨0,0,0,0,0,0,0,false⟩,0,0⟩:Xg),8)) (cond (cond (y6.Kind != 4) (y6.Off != 0) false) (some ((⟨⟨0,0,0,0,0,0,0,false⟩,0,0⟩:Xg),8)) ((U3 a0 y6 y4.Segment y4.Off).bind fun y8=>some (y8.1,y8.2))))
noncomputable def Zbz (a0:(Option Zp)) (a1:Int) (a2:Int):Option (Xg×Int) :=
 (Qk a0 a1 a2).bind fun y2=>cond (!y2.2) (some ((⟨⟨0,0,0,0,0,0,0,false⟩,0,0⟩:Xg),7)) ((Ka y2.1).bind fun y4=>(U3 a0 y4 a1 (IntKind.i64.wrap ((IntKind.i64.wrap (a2+1))+y4.Off))).bind fun y6=>some (y6.1,y6.2))
noncomputable def Zbx (a0:(Option Zp)) (a1:Int) (a2:Int):Option (Xg×Int) :=
 (Qk a0 a1 a2).bind fun y2=>cond (!y2.2) (some ((⟨⟨0,0,0,0,0,0,0,false⟩,0,0⟩:Xg),7)) ((Ka y2.1).bind fun y4=>cond (y4.Kind == 0) (some ((⟨⟨0,0,0,0,0,0,0,false⟩,0,0⟩:Xg),0)) (cond (cond (y4.Kind == 3) y4.Double false) ((Zby a0 y4.Segment y4.Off).bind fun y6=>some (y6.1,y6.2)) (cond (y4.Kind == 3) ((Zbz a0 y4.Segment y4.Off).bind fun y8=>some (y8.1,y8.2)) ((U3 a0 y4 a1 (IntKind.i64.wrap ((IntKind.i64.wrap (a2+1))+y4.Off))).bind fun y10=>some (y10.1,y10.2)))))
structure Zd where
 a:(Option Zp)
 kind:Int
 segment:Int
 at_:Int
 words:Int
 ptrs:Int
 count:Int
 code:Int
 index:Int
noncomputable def U4 (a0:Zd):Option (Zd×Int) :=
 (Qk a0.a a0.segment a0.at_).bind fun y2=>(Ka y2.1).bind fun y4=>cond (cond (cond (cond (y4.Kind != 0) (y4.Kind != 1) false) true (decide (y4.Off < 0))) true (decide (a0.count < (IntKind.i64.wrap (y4.Off * (IntKind.i64.wrap (y4.Data+y4.Ptrs))))))) (some ((⟨(none:(Option Zp)),0,0,0,0,0,0,0,0⟩:Zd),8)) (some ((⟨a0.a,a0.kind,a0.segment,a0.at_,y4.Data,y4.Ptrs,y4.Off,a0.code,a0.index⟩:Zd),0))
noncomputable def G3 (a0:(Option Zp)) (a1:Int) (a2:Int):Option (Zd×Int) :=
 (Zbx a0 a1 a2).bind fun y2=>cond (cond (y2.2 != 0) true (y2.1.P.Kind == 0)) (some ((⟨(none:(Option Zp)),0,0,0,0,0,0,0,0⟩:Zd),y2.2)) (cond (y2.1.P.Kind == 1) (some ((⟨a0,1,y2.1.Segment,y2.1.At,y2.1.P.Data,y2.1.P.Ptrs,0,0,0⟩:Zd),0)) (cond (y2.1.P.Code == 7) ((U4 (⟨a0,(IntKind.i64.wrap (y2.1.P.Code+2)),y2.1.Segment,y2.1.At,0,0,y2.1.P.Count,0,0⟩:Zd)).bind fun y4=>some (y4.1,y4.2)) (some ((⟨a0,(IntKind.i64.wrap (y2.1.P.Code+2)),y2.1.Segment,y2.1.At,0,0,y2.1.P.Count,0,0⟩:Zd),0))))
noncomputable def Zav (a0:(Option Zp)):Option (Zd×Int) :=
 (G3 a0 0 0).bind fun y2=>some (y2.1,y2.2)
noncomputable def Xj (a0:(List (List Int))):Option Zd :=
 (Zeq a0).bind fun y3=>(Zav y3).bind fun y4=>some y4.1
noncomputable def Yf (a0:Zd):Option Int :=
 some a0.kind
noncomputable def J7 (a0:Zd):Option Int :=
 cond (a0.kind == 1) (some a0.words) (cond (a0.kind == 10) (some 1) (some 0))
noncomputable def Zag (a0:Int):Option (Int×Bool) :=
 ((some (⟨[0,1,8,16,32,64],rfl⟩:(Arr Int 6)))).bind fun y6=>((some (⟨[0,0,0,0,0,0],rfl⟩:(Arr Int 6)))).bind fun y8=>cond (cond (decide (a0 < 0)) true (decide (6≤a0))) (some (0,false)) ((Z5 y6.1 a0).bind fun x12=>some (x12,true))
noncomputable def Zer (a0:(List Int)) (a1:Int) (a2:Int):Option Int :=
 (Zag a1).bind fun y2=>cond (cond (y2.1 == 0) true (decide (a2 < 0))) (some 0) ((Xz (y2.1≠0)).bind fun u4=>(Xz ((IntKind.i64.wrap (Int.tdiv 64 y2.1))≠0)).bind fun u6=>cond (decide ((a0.length:Int)≤(IntKind.i64.wrap (Int.tdiv a2 (IntKind.i64.wrap (Int.tdiv 64 y2.1)))))) (some 0) ((Xz ((IntKind.i64.wrap (Int.tdiv 64 y2.1))≠0)).bind fun u12=>(Z5 a0 (IntKind.i64.wrap (Int.tdiv a2 (IntKind.i64.wrap (Int.tdiv 64 y2.1))))).bind fun x13=>(Xz ((IntKind.i64.wrap (Int.tdiv 64 y2.1))≠0)).bind fun u14=>(Xz (0≤(IntKind.i64.wrap ((Int.tmod a2 (IntKind.i64.wrap (Int.tdiv 64 y2.1))) * y2.1)))).bind fun u15=>(Xz (0≤y2.1)).bind fun u16=>some (IntKind.u64.wrap (Vw .u64 (Int.fdiv x13 (2 ^ min (Int.toNat (IntKind.i64.wrap ((Int.tmod a2 (IntKind.i64.wrap (Int.tdiv 64 y2.1))) * y2.1))) 64)) (IntKind.u64.wrap ((IntKind.u64.wrap (1 * 2 ^ min (Int.toNat y2.1) 64)) - 1))))))
noncomputable def Ku (a0:Zd):Option Int :=
 (Zag a0.code).bind fun y2=>cond (y2.1 == 0) (some 0) ((Xz (y2.1≠0)).bind fun u4=>(Xz ((IntKind.i64.wrap (Int.tdiv 64 y2.1))≠0)).bind fun u7=>(Qk a0.a a0.segment (IntKind.i64.wrap (a0.at_+(IntKind.i64.wrap (Int.tdiv a0.index (IntKind.i64.wrap (Int.tdiv 64 y2.1))))))).bind fun y8=>(Xz ((IntKind.i64.wrap (Int.tdiv 64 y2.1))≠0)).bind fun u11=>(Zer ([y8.1]:List Int) a0.code (Int.tmod a0.index (IntKind.i64.wrap (Int.tdiv 64 y2.1)))).bind fun y12=>some y12)
noncomputable def Xl (a0:Zd) (a1:Int):Option Int :=
 (cond (decide (a1 < 0)) (some true) ((J7 a0).bind fun y4=>some (cond (decide (a1 < 0)) true (decide (y4≤a1))))).bind fun (z2:Bool)=>cond z2 (some 0) (cond (a0.kind == 10) ((Ku a0).bind fun y7=>some y7) ((Qk a0.a a0.segment (IntKind.i64.wrap (a0.at_+a1))).bind fun y9=>some y9.1))
noncomputable def G0 (a0:Zd) (s0_:Int):Option (Int ⊕ Int) :=
 (cond (decide (0 < s0_)) ((Xl a0 (IntKind.i64.wrap (s0_ - 1))).bind fun y6=>some (cond (decide (0 < s0_)) (y6 == 0) false)) (some false)).bind fun (z4:Bool)=>cond z4 (some (.inl (IntKind.i64.wrap (s0_ - 1)))) (some (.inr s0_))
noncomputable def K1 (a0:Zd):Option Int :=
 (J7 a0).bind fun y2=>(Z6 (G0 a0) y2).bind fun (z9:Int)=>some z9
noncomputable def Kh (a0:Zd) (a1:Zd) (y2:Int) (s0_:Int):Option (Int ⊕ (Unit ⊕ Unit)) :=
 cond (decide (s0_ < y2)) ((Xl a0 s0_).bind fun y7=>(Xl a1 s0_).bind fun y8=>cond (y7 != y8) (some (.inr (.inl ()))) (some (.inl (IntKind.i64.wrap (s0_+1))))) (some (.inr (.inr ())))
noncomputable def V0 (a0:Zd) (a1:Zd):Option Bool :=
 (K1 a0).bind fun y2=>(K1 a1).bind fun y4=>cond (y4 != y2) (some false) ((Z6 (Kh a0 a1 y2) 0).bind fun (z11:(Unit ⊕ Unit))=>match z11 with | .inl z11=>some false | .inr z11=>some true)
noncomputable def Xk (a0:Zd):Option Int :=
 cond (a0.kind == 1) (some a0.ptrs) (some a0.count)
noncomputable def J6 (a0:Zd) (a1:Int):Option (Zd×Int) :=
 (cond (decide (a1 < 0)) (some true) ((Xk a0).bind fun y4=>some (cond (decide (a1 < 0)) true (decide (y4≤a1))))).bind fun (z2:Bool)=>cond z2 (some ((⟨(none:(Option Zp)),0,0,0,0,0,0,0,0⟩:Zd),0)) (cond (a0.kind == 1) ((G3 a0.a a0.segment (IntKind.i64.wrap ((IntKind.i64.wrap (a0.at_+a0.words))+a1))).bind fun y7=>some (y7.1,y7.2)) (cond (a0.kind == 8) ((G3 a0.a a0.segment (IntKind.i64.wrap (a0.at_+a1))).bind fun y9=>some (y9.1,y9.2)) (cond (a0.kind == 9) (some ((⟨a0.a,1,a0.segment,(IntKind.i64.wrap ((IntKind.i64.wrap (a0.at_+1))+(IntKind.i64.wrap (a1 * (IntKind.i64.wrap (a0.words+a0.ptrs)))))),a0.words,a0.ptrs,0,0,0⟩:Zd),0)) (some ((⟨a0.a,10,a0.segment,a0.at_,0,0,0,(IntKind.i64.wrap (a0.kind - 2)),a1⟩:Zd),0)))))
noncomputable def Ur (a0:Zd) (s0_:Int):Option (Int ⊕ ((Int×Int) ⊕ Unit)) :=
 cond (decide (0 < s0_)) ((J6 a0 (IntKind.i64.wrap (s0_ - 1))).bind fun y4=>(cond (y4.2 != 0) (some true) ((Yf y4.1).bind fun y8=>some (cond (y4.2 != 0) true (y8 != 0)))).bind fun (z6:Bool)=>cond z6 (some (.inr (.inl (s0_,y4.2)))) (some (.inl (IntKind.i64.wrap (s0_ - 1))))) (some (.inr (.inr ())))
noncomputable def Zc6 (a0:Zd):Option (Int×Int) :=
 (Xk a0).bind fun y2=>(Z6 (Ur a0) y2).bind fun (z12:((Int×Int) ⊕ Unit))=>match z12 with | .inl z12=>some (z12.1,z12.2) | .inr z12=>some (0,0)
noncomputable def Zaf (a0:Zd):Option (Int×Int) :=
 (Yf a0).bind fun y2=>cond (y2 != 1) ((Xk a0).bind fun y4=>some (y4,0)) ((Zc6 a0).bind fun y6=>cond (y6.2 != 0) (some (0,y6.2)) (some (y6.1,0)))
structure Zq where
 left:Int
noncomputable def Xt (Y0:(Zq→Zd→Zd→Option (Bool×Int×Zq))) (Y4:(Zq→Zd→Zd→Int→Option (Bool×Int×Zq))) (a0:Zq) (a1:Zd) (a2:Zd):Option (Bool×Int×Zq) :=
 cond (a0.left == 0) (some (false,3,a0)) (((Yf a1).bind fun y8=>(Yf a2).bind fun y9=>cond (y8 != y9) (some true) ((V0 a1 a2).bind fun y10=>some (cond (y8 != y9) true (!y10)))).bind fun (z4:Bool)=>cond z4 (some (false,0,(⟨(IntKind.i64.wrap (a0.left - 1))⟩:Zq))) ((Zaf a1).bind fun y13=>cond (y13.2 != 0) (some (false,y13.2,(⟨(IntKind.i64.wrap (a0.left - 1))⟩:Zq))) ((Zaf a2).bind fun y15=>cond (cond (y15.2 != 0) true (y13.1 != y15.1)) (some (false,y15.2,(⟨(IntKind.i64.wrap (a0.left - 1))⟩:Zq))) ((Y4 (⟨(IntKind.i64.wrap (a0.left - 1))⟩:Zq) a1 a2 y13.1).bind fun y17=>some (y17.1,y17.2.1,y17.2.2)))))
noncomputable def Y1 (Y0:(Zq→Zd→Zd→Option (Bool×Int×Zq))) (a1:Zd) (a2:Zd) (a3:Int) (s0_:(Int×Int)):Option ((Int×Int) ⊕ ((Int×Int) ⊕ Int)) :=
 cond (decide (s0_.1 < a3)) ((J6 a1 s0_.1).bind fun y2=>cond (y2.2 != 0) (some (.inr (.inl (y2.2,s0_.2)))) ((J6 a2 s0_.1).bind fun y4=>cond (y4.2 != 0) (some (.inr (.inl (y4.2,s0_.2)))) ((Y0 (⟨s0_.2⟩:Zq) y2.1 y4.1).bind fun y6=>cond (cond (!y6.1) true (y6.2.1 != 0)) (some (.inr (.inl (y6.2.1,y6.2.2.left)))) (some (.inl ((IntKind.i64.wrap (s0_.1+1)),y6.2.2.left)))))) (some (.inr (.inr s0_.2)))
noncomputable def Y3 (Y0:(Zq→Zd→Zd→Option (Bool×Int×Zq))) (Y4:(Zq→Zd→Zd→Int→Option (Bool×Int×Zq))) (a0:Zq) (a1:Zd) (a2:Zd) (a3:Int):Option (Bool×Int×Zq) :=
 (Z6 (Y1 Y0 a1 a2 a3) (0,a0.left)).bind fun (z11:((Int×Int) ⊕ Int))=>match z11 with | .inl z11=>some (false,z11.1,(⟨z11.2⟩:Zq)) | .inr z11=>some (true,0,(⟨z11⟩:Zq))
noncomputable def Z0:Nat→((Zq→Zd→Zd→Option (Bool×Int×Zq))×(Zq→Zd→Zd→Int→Option (Bool×Int×Zq)))
 | 0=>((fun _ _ _=>none),(fun _ _ _ _=>none))
 | k+1=>(Xt ((Z0 k).1) ((Z0 k).2),Y3 ((Z0 k).1) ((Z0 k).2))
noncomputable def Gk (a0:Zq) (a1:Zd) (a2:Zd):Option (Bool×Int×Zq):=lim fun k=>(Z0 k).1 a0 a1 a2
noncomputable def Vc (a0:Zd) (a1:Zd):Option (Bool×Int) :=
 (Gk (⟨65537⟩:Zq) a0 a1).bind fun y2=>some (y2.1,y2.2.1)
noncomputable def Zit (a0:Int) (s0_:(Int×(Arr Int 8))):Option ((Int×(Arr Int 8)) ⊕ (Arr Int 8)) :=
 cond (decide (s0_.1 < 8)) ((Xz (0≤(IntKind.i64.wrap (8 * s0_.1)))).bind fun u9=>(Z5 s0_.2.1 s0_.1).bind fun x10=>some (.inl ((IntKind.i64.wrap (s0_.1+1)),(Arr.put s0_.2 s0_.1 (IntKind.u8.wrap (Int.fdiv a0 (2 ^ min (Int.toNat (IntKind.i64.wrap (8 * s0_.1))) 64))))))) (some (.inr s0_.2))
noncomputable def Zb1 (a0:Int):Option (Arr Int 8) :=
 ((some (⟨[0,0,0,0,0,0,0,0],rfl⟩:(Arr Int 8)))).bind fun y3=>((some (⟨[0,0,0,0,0,0,0,0],rfl⟩:(Arr Int 8)))).bind fun y7=>(Z6 (Zit a0) (0,y7)).bind fun (z13:(Arr Int 8))=>some z13
noncomputable def Zgo (y2:(Arr Int 8)) (s0_:(Int×Int)):Option ((Int×Int) ⊕ Int) :=
 cond (decide (s0_.2 < 8)) (((Z5 y2.1 s0_.2).bind fun u5=>cond (u5 != 0) ((Xz (0≤s0_.2)).bind fun u6=>some (IntKind.u8.wrap (Yba .u8 s0_.1 (IntKind.u8.wrap (1 * 2 ^ min (Int.toNat s0_.2) 8))))) (some s0_.1)).bind fun (z3:Int)=>some (.inl (z3,(IntKind.i64.wrap (s0_.2+1))))) (some (.inr s0_.1))
noncomputable def Zaw (a0:Int) (a1:Int):Option Int :=
 (Zb1 (IntKind.u64.wrap (Zv2 .u64 a0 a1))).bind fun y2=>(Z6 (Zgo y2) (0,0)).bind fun (z9:Int)=>some z9
noncomputable def Zjg (a0:Int) (s0_:(Int×Int)):Option ((Int×Int) ⊕ Int) :=
 cond (decide (s0_.2 < 8)) (((Xz (0≤s0_.2)).bind fun u3=>cond ((IntKind.u8.wrap (Vw .u8 (Int.fdiv a0 (2 ^ min (Int.toNat s0_.2) 8)) 1)) == 1) ((Xz (0≤(IntKind.i64.wrap (8 * s0_.2)))).bind fun u4=>some (IntKind.u64.wrap (Yba .u64 s0_.1 (IntKind.u64.wrap (255 * 2 ^ min (Int.toNat (IntKind.i64.wrap (8 * s0_.2))) 64))))) (some s0_.1)).bind fun (z1:Int)=>some (.inl (z1,(IntKind.i64.wrap (s0_.2+1))))) (some (.inr s0_.1))
noncomputable def Zbh (a0:Int):Option Int :=
 (Z6 (Zjg a0) (0,0)).bind fun (z7:Int)=>some z7
structure Z8 where
 At:Int
 Mask:Int
 Old:Int
 New:Int
noncomputable def Zc7 (a0:Int) (a1:Int) (a2:Int):Option (Z8×Bool) :=
 (Zaw a1 a2).bind fun y2=>cond (y2 == 0) (some ((⟨0,0,0,0⟩:Z8),false)) ((Zbh y2).bind fun y5=>(Zbh y2).bind fun y6=>some ((⟨a0,y2,(IntKind.u64.wrap (Vw .u64 a1 y5)),(IntKind.u64.wrap (Vw .u64 a2 y6))⟩:Z8),true))
structure Xw where
 most_:Int
 left:Int
mutual
structure Yv where
 Kind:Int
 Old:Zj
 New:Zj
 Words:(List Z8)
 Kids:(List Xm)
 List_:Int
 Ops:(List Qh)
structure Xm where
 At:Int
 E:Yv
structure Qh where
 Kind:Int
 N:Int
 L:(List Zj)
 E:Yv
end
noncomputable def Qp (a1:Zd) (a2:Zd) (y3:Int) (y4:Int) (s0_:(Int×(List Z8))):Option ((Int×(List Z8)) ⊕ (List Z8)) :=
 cond (decide (s0_.1 < (if y3 < y4 then y4 else y3))) (((Xl a1 s0_.1).bind fun y9=>(Xl a2 s0_.1).bind fun y10=>(Zc7 s0_.1 y9 y10).bind fun y11=>cond y11.2 ((Zf5 32 s0_.2 ([y11.1]:List Z8)).bind fun l12=>some l12) (some s0_.2)).bind fun (z5:(List Z8))=>some (.inl ((IntKind.i64.wrap (s0_.1+1)),z5))) (some (.inr s0_.2))
noncomputable def Vd (y18:Int) (y19:Int) (s1_:Unit):Option (Unit ⊕ Unit) :=
 cond (decide (0 < (if y18 < y19 then y19 else y18))) (none) (some (.inr ()))
noncomputable def Ji (a0:Xw) (a1:Zd) (a2:Zd):Option (Yv×Int×Xw) :=
 (K1 a1).bind fun y3=>(K1 a2).bind fun y4=>(Z6 (Qp a1 a2 y3 y4) (0,([]:List Z8))).bind fun (z15:(List Z8))=>(Xk a1).bind fun y18=>(Xk a2).bind fun y19=>(Z6 (Vd y18 y19) ()).bind fun (z21:Unit)=>some ((⟨2,⟨0,[],[]⟩,⟨0,[],[]⟩,z15,[],0,[]⟩:Yv),0,a0)
noncomputable def Zjf (a0:Int):Option Bool :=
 some (cond (decide (2≤a0)) (decide (a0≤9)) false)
noncomputable def Jh (a0:Xw) (a1:Zd) (a2:Zd):Option (Yv×Int×Xw) :=
 cond (a0.left == 0) (some ((⟨0,⟨0,[],[]⟩,⟨0,[],[]⟩,[],[],0,[]⟩:Yv),3,a0)) ((Vc a1 a2).bind fun y2=>cond (cond y2.1 true (y2.2 != 0)) (some ((⟨0,⟨0,[],[]⟩,⟨0,[],[]⟩,[],[],0,[]⟩:Yv),y2.2,(⟨a0.most_,(IntKind.i64.wrap (a0.left - 1))⟩:Xw))) (((Yf a1).bind fun y8=>cond (y8 == 1) ((Yf a2).bind fun y9=>some (cond (y8 == 1) (y9 == 1) false)) (some false)).bind fun (z5:Bool)=>cond z5 ((Ji (⟨a0.most_,(IntKind.i64.wrap (a0.left - 1))⟩:Xw) a1 a2).bind fun y12=>some (y12.1,y12.2.1,y12.2.2)) (((Yf a1).bind fun y22=>(Yf a2).bind fun y23=>cond (y22 == y23) ((Yf a1).bind fun y24=>(Zjf y24).bind fun y25=>some (cond (y22 == y23) y25 false)) (some false)).bind fun (z17:Bool)=>cond z17 (none) (none))))
noncomputable def Qg (a0:List Z8):Option (List Z8) :=
 Zf5 32 ([]:List Z8) a0
noncomputable def Zgn (a0:Yv) (s0_:Unit):Option (Unit ⊕ Unit) :=
 cond (decide (0 < (a0.Kids.length:Int))) ((Z5 a0.Kids 0).bind fun x4=>none) (some (.inr ()))
noncomputable def Gf (a0:Yv):Option Yv :=
 cond (a0.Kind == 1) (none) (cond (a0.Kind == 2) ((Qg a0.Words).bind fun y2=>(Z6 (Zgn a0) ()).bind fun (z6:Unit)=>some (⟨2,⟨0,[],[]⟩,⟨0,[],[]⟩,y2,[],0,[]⟩:Yv)) (cond (a0.Kind == 3) (none) (some (⟨0,⟨0,[],[]⟩,⟨0,[],[]⟩,[],[],0,[]⟩:Yv))))
noncomputable def Q5 (a0:Zd) (a1:Zd) (a2:Int):Option (Yv×Int) :=
 (Jh (⟨a2,131074⟩:Xw) a0 a1).bind fun y2=>cond (y2.2.1 != 0) (some ((⟨0,⟨0,[],[]⟩,⟨0,[],[]⟩,[],[],0,[]⟩:Yv),y2.2.1)) ((Gf y2.1).bind fun y4=>some (y4,0))
noncomputable def Q9 :Option Bool :=
 (Xj ([([4294967296,7]:List Int)]:List (List Int))).bind fun y4=>(Xj ([([4294967296,8]:List Int)]:List (List Int))).bind fun y5=>(Q5 y4 y5 9).bind fun y6=>(cond (y6.2 == 0) (cond (y6.1.Kind == 2) (cond ((y6.1.Words.length:Int) == 1) ((Z5 y6.1.Words 0).bind fun x10=>some (cond (cond (cond (y6.2 == 0) (y6.1.Kind == 2) false) ((y6.1.Words.length:Int) == 1) false) ((x10.At == 0) && ((x10.Mask == 1) && ((x10.Old == 7) && (x10.New == 8)))) false)) (some false)) (some false)) (some false)).bind fun (z8:Bool)=>some z8
theorem Zgy:∀ x,G.pures ((eI .u64) x)=true:=fun x=>by simp [eI,eB,eS,eL,eP,G.pures,G.pure]
theorem Za7 {O O':Objs} {n:Nat} (xs:List Int):wkl O O' n (fl (eI .u64) xs) (fl (eI .u64) xs):=Ze8 (X6 Zgy xs)
theorem Z3l {O O':Objs} {n:Nat} (xs:List Int) (b b':List G):wkl O O' n (fl (eI .u64) xs++b) (fl (eI .u64) xs++b')=wkl O O' n b b':=Zpz b b' _ (X6 Zgy xs)
theorem Z2v (xs:List Int):(fl (eI .u64) xs).length=xs.length * 1:=Vo (f:=(eI .u64)) (k:=1) (fun _=>rfl) xs
theorem Z20 (xs:List Int):(fl (eI .u64) xs).all G.one=true:=Zec (fun x=>by simp [eI,eB,eS,eL,eP,G.one,Value.oneCell']) xs
theorem Zfh {ρ:Nat→Nat} (xs:List Int):G.rens ρ (fl (eI .u64) xs)=fl (eI .u64) xs:=Vr ρ _ (X6 Zgy xs)
theorem G4 {k:Nat} (xs:List Int):G.unders k (fl (eI .u64) xs)=true:=V7 _ _ (X6 Zgy xs)
theorem Zpq:∀ x,G.pures ((eL (eI .u64)) x)=true:=fun x=>by simp [eI,eB,eS,eL,eP,G.pures,G.pure,X6]
theorem Zno {O O':Objs} {n:Nat} (xs:List (List Int)):wkl O O' n (fl (eL (eI .u64)) xs) (fl (eL (eI .u64)) xs):=Ze8 (X6 Zpq xs)
theorem Zuh {ρ:Nat→Nat} (xs:List (List Int)):G.rens ρ (fl (eL (eI .u64)) xs)=fl (eL (eI .u64)) xs:=Vr ρ _ (X6 Zpq xs)
mutual
def Ua:Zj→List G
 | ⟨f0,f1,f2⟩=>[.val (.int .i64 f0),.sl f1.length (fl (eI .u64) f1),.sl f2.length (Ub f2)]
def Ub:List Zj→List G
 | []=>[]
 | x::xs=>Ua x++Ub xs
end
theorem Zf9:∀ xs,Ub xs=fl Ua xs
 | []=>by simp [Ub,fl]
 | x::xs=>by rw [Ub,Kz,Zf9 xs]
def Zr (x:Zj):List G:=[.val (.int .i64 x.Kind),.sl x.Words.length (fl (eI .u64) x.Words),.sl x.Kids.length (fl Ua x.Kids)]
theorem Zci:Ua=Zr:=by
 funext x
 obtain ⟨_,_,_⟩:=x
 simp only [Ua,Zf9,Zr,List.cons_append,List.nil_append]
mutual
theorem Zjr:∀ x,G.pures (Ua x)=true
 | ⟨f0,f1,f2⟩=>by simp [Ua,eP,eI,eB,eS,eL,G.pures,G.pure,Gg,X6,Ziv f2]
theorem Ziv:∀ xs,G.pures (Ub xs)=true
 | []=>rfl
 | x::xs=>by simp [Ub,Gg,Zjr x,Ziv xs]
end
theorem Vq:∀ x,G.pures (Zr x)=true:=fun x=>by rw [← Zci];exact Zjr x
theorem Zaj {O O':Objs} {n:Nat} (xs:List Zj):wkl O O' n (fl Zr xs) (fl Zr xs):=Ze8 (X6 Vq xs)
theorem Zr1 {O O':Objs} {n:Nat} (xs:List Zj) (b b':List G):wkl O O' n (fl Zr xs++b) (fl Zr xs++b')=wkl O O' n b b':=Zpz b b' _ (X6 Vq xs)
theorem Zb3 {ρ:Nat→Nat} (xs:List Zj):G.rens ρ (fl Zr xs)=fl Zr xs:=Vr ρ _ (X6 Vq xs)
def Zz (x:Zp):List G:=[.sl x.segments.length (fl (eL (eI .u64)) x.segments),.val (.int .i64 x.size),.val (.int .i64 x.left)]
theorem Zex:∀ x,G.pures (Zz x)=true:=fun x=>by simp [eI,eB,eS,eL,eP,G.pures,G.pure,X6,Zz]
theorem Znc {O O':Objs} {n:Nat} (x:Option Zp):wk O O' n (gP Zz x) (gP Zz x)=True:=Yiq Zex x
theorem Zju {ρ:Nat→Nat} (x:Option Zp):(gP Zz x).ren ρ=gP Zz x:=Zug ρ _ (Z4m Zex x)
def Q1 (x:Yd):List G:=[.val (.int .i64 x.Depth),.val (.int .i64 x.Weight),.val (.int .i64 x.MaxD),.val (.int .i64 x.MaxOut)]
theorem Z2u (xs:List Int):(fl (eI .i64) xs).length=xs.length * 1:=Vo (f:=(eI .i64)) (k:=1) (fun _=>rfl) xs
theorem Z2z (xs:List Int):(fl (eI .i64) xs).all G.one=true:=Zec (fun x=>by simp [eI,eB,eS,eL,eP,G.one,Value.oneCell']) xs
theorem Z9d:∀ x,G.pures ((eI .u8) x)=true:=fun x=>by simp [eI,eB,eS,eL,eP,G.pures,G.pure]
theorem Z62 {O O':Objs} {n:Nat} (xs:List Int):wkl O O' n (fl (eI .u8) xs) (fl (eI .u8) xs):=Ze8 (X6 Z9d xs)
theorem Z53 (xs:List Int):(fl (eI .u8) xs).length=xs.length * 1:=Vo (f:=(eI .u8)) (k:=1) (fun _=>rfl) xs
theorem Z59 (xs:List Int):(fl (eI .u8) xs).all G.one=true:=Zec (fun x=>by simp [eI,eB,eS,eL,eP,G.one,Value.oneCell']) xs
def Zy (x:Z8):List G:=[.val (.int .i64 x.At),.val (.int .u8 x.Mask),.val (.int .u64 x.Old),.val (.int .u64 x.New)]
mutual
def V9:Yv→List G
 | ⟨f0,f1,f2,f3,f4,f5,f6⟩=>[.val (.int .i64 f0),.val (.int .i64 f1.Kind),.sl f1.Words.length (fl (eI .u64) f1.Words),.sl f1.Kids.length (fl Zr f1.Kids),.val (.int .i64 f2.Kind),.sl f2.Words.length (fl (eI .u64) f2.Words),.sl f2.Kids.length (fl Zr f2.Kids),.sl f3.length (fl Zy f3),.sl f4.length (J4 f4),.val (.int .i64 f5),.sl f6.length (Gq f6)]
def Zfo:List Yv→List G
 | []=>[]
 | x::xs=>V9 x++Zfo xs
def Qu:Xm→List G
 | ⟨f0,f1⟩=>[.val (.int .i64 f0)]++V9 f1
def J4:List Xm→List G
 | []=>[]
 | x::xs=>Qu x++J4 xs
def Vu:Qh→List G
 | ⟨f0,f1,f2,f3⟩=>[.val (.int .i64 f0),.val (.int .i64 f1),.sl f2.length (fl Zr f2)]++V9 f3
def Gq:List Qh→List G
 | []=>[]
 | x::xs=>Vu x++Gq xs
end
theorem Zal:∀ xs,J4 xs=fl Qu xs
 | []=>by simp [J4,fl]
 | x::xs=>by rw [J4,Kz,Zal xs]
theorem Zee:∀ xs,Gq xs=fl Vu xs
 | []=>by simp [Gq,fl]
 | x::xs=>by rw [Gq,Kz,Zee xs]
def Yu (x:Xm):List G:=[.val (.int .i64 x.At),.val (.int .i64 x.E.Kind),.val (.int .i64 x.E.Old.Kind),.sl x.E.Old.Words.length (fl (eI .u64) x.E.Old.Words),.sl x.E.Old.Kids.length (fl Zr x.E.Old.Kids),.val (.int .i64 x.E.New.Kind),.sl x.E.New.Words.length (fl (eI .u64) x.E.New.Words),.sl x.E.New.Kids.length (fl Zr x.E.New.Kids),.sl x.E.Words.length (fl Zy x.E.Words),.sl x.E.Kids.length (fl Qu x.E.Kids),.val (.int .i64 x.E.List_),.sl x.E.Ops.length (fl Vu x.E.Ops)]
def Jn (x:Qh):List G:=[.val (.int .i64 x.Kind),.val (.int .i64 x.N),.sl x.L.length (fl Zr x.L),.val (.int .i64 x.E.Kind),.val (.int .i64 x.E.Old.Kind),.sl x.E.Old.Words.length (fl (eI .u64) x.E.Old.Words),.sl x.E.Old.Kids.length (fl Zr x.E.Old.Kids),.val (.int .i64 x.E.New.Kind),.sl x.E.New.Words.length (fl (eI .u64) x.E.New.Words),.sl x.E.New.Kids.length (fl Zr x.E.New.Kids),.sl x.E.Words.length (fl Zy x.E.Words),.sl x.E.Kids.length (fl Qu x.E.Kids),.val (.int .i64 x.E.List_),.sl x.E.Ops.length (fl Vu x.E.Ops)]
theorem Zdh:Qu=Yu:=by
 funext x
 obtain ⟨_,⟨_,_,_,_,_,_,_⟩⟩:=x
 simp only [V9,Qu,Zal,Vu,Zee,Yu,List.cons_append,List.nil_append]
theorem Zi6:Vu=Jn:=by
 funext x
 obtain ⟨_,_,_,⟨_,_,_,_,_,_,_⟩⟩:=x
 simp only [V9,Qu,Zal,Vu,Zee,Jn,List.cons_append,List.nil_append]
mutual
theorem Zev:∀ x,G.pures (V9 x)=true
 | ⟨f0,f1,f2,f3,f4,f5,f6⟩=>by simp [V9,eP,eI,eB,eS,eL,G.pures,G.pure,Gg,X6,Zey f4,Znk f6,Vq,Zy]
theorem Zsp:∀ xs,G.pures (Zfo xs)=true
 | []=>rfl
 | x::xs=>by simp [Zfo,Gg,Zev x,Zsp xs]
theorem Zfg:∀ x,G.pures (Qu x)=true
 | ⟨f0,f1⟩=>by simp [Qu,eP,eI,eB,eS,eL,G.pures,G.pure,Gg,X6,Zev f1,Vq,Zy]
theorem Zey:∀ xs,G.pures (J4 xs)=true
 | []=>rfl
 | x::xs=>by simp [J4,Gg,Zfg x,Zey xs]
theorem Zpp:∀ x,G.pures (Vu x)=true
 | ⟨f0,f1,f2,f3⟩=>by simp [Vu,eP,eI,eB,eS,eL,G.pures,G.pure,Gg,X6,Zev f3,Vq,Zy]
theorem Znk:∀ xs,G.pures (Gq xs)=true
 | []=>rfl
 | x::xs=>by simp [Gq,Gg,Zpp x,Znk xs]
end
theorem Ui:∀ x,G.pures (Zy x)=true:=fun x=>by simp [eI,eB,eS,eL,eP,G.pures,G.pure,Zy]
theorem Zj5 {O O':Objs} {n:Nat} (xs:List Z8):wkl O O' n (fl Zy xs) (fl Zy xs):=Ze8 (X6 Ui xs)
theorem Zj4 {O O':Objs} {n:Nat} (xs:List Z8) (b b':List G):wkl O O' n (fl Zy xs++b) (fl Zy xs++b')=wkl O O' n b b':=Zpz b b' _ (X6 Ui xs)
theorem Zjc (xs:List Z8):(fl Zy xs).length=xs.length * 4:=Vo (f:=Zy) (k:=4) (fun _=>rfl) xs
theorem Zjo (xs:List Z8):(fl Zy xs).all G.one=true:=Zec (fun x=>by simp [eI,eB,eS,eL,eP,G.one,Value.oneCell',Zy]) xs
theorem Zi4 {ρ:Nat→Nat} (xs:List Z8):G.rens ρ (fl Zy xs)=fl Zy xs:=Vr ρ _ (X6 Ui xs)
theorem Zew:∀ x,G.pures (Yu x)=true:=fun x=>by rw [← Zdh];exact Zfg x
theorem Znb {O O':Objs} {n:Nat} (xs:List Xm):wkl O O' n (fl Yu xs) (fl Yu xs):=Ze8 (X6 Zew xs)
theorem Zjv {ρ:Nat→Nat} (xs:List Xm):G.rens ρ (fl Yu xs)=fl Yu xs:=Vr ρ _ (X6 Zew xs)
theorem Znj:∀ x,G.pures (Jn x)=true:=fun x=>by rw [← Zi6];exact Zpp x
theorem Zu0 {O O':Objs} {n:Nat} (xs:List Qh):wkl O O' n (fl Jn xs) (fl Jn xs):=Ze8 (X6 Znj xs)
theorem Zsq {ρ:Nat→Nat} (xs:List Qh):G.rens ρ (fl Jn xs)=fl Jn xs:=Vr ρ _ (X6 Znj xs)
def Xu (x:Yv):List G:=[.val (.int .i64 x.Kind),.val (.int .i64 x.Old.Kind),.sl x.Old.Words.length (fl (eI .u64) x.Old.Words),.sl x.Old.Kids.length (fl Zr x.Old.Kids),.val (.int .i64 x.New.Kind),.sl x.New.Words.length (fl (eI .u64) x.New.Words),.sl x.New.Kids.length (fl Zr x.New.Kids),.sl x.Words.length (fl Zy x.Words),.sl x.Kids.length (fl Yu x.Kids),.val (.int .i64 x.List_),.sl x.Ops.length (fl Jn x.Ops)]
def Zi (x:Zd):List G:=[(gP Zz x.a),.val (.int .i64 x.kind),.val (.int .i64 x.segment),.val (.int .i64 x.at_),.val (.int .i64 x.words),.val (.int .i64 x.ptrs),.val (.int .i64 x.count),.val (.int .i64 x.code),.val (.int .i64 x.index)]
def Yk (x:Z4):List G:=[.val (.int .i64 x.Kind),.val (.int .i64 x.Off),.val (.int .i64 x.Data),.val (.int .i64 x.Ptrs),.val (.int .i64 x.Code),.val (.int .i64 x.Count),.val (.int .i64 x.Segment),.val (.bool x.Double)]
def Zx (x:Zs):List G:=[.val (.int .i64 x.Kind),.val (.int .i64 x.S),.val (.int .i64 x.At),.val (.int .i64 x.Data),.val (.int .i64 x.Ptrs),.val (.int .i64 x.Count),.val (.int .u64 x.N)]
def Zn (x:Zj):List G:=[.val (.int .i64 x.Kind),.sl x.Words.length (fl (eI .u64) x.Words),.sl x.Kids.length (fl Zr x.Kids)]
def Yx (x:Yd):List G:=[.val (.int .i64 x.Depth),.val (.int .i64 x.Weight),.val (.int .i64 x.MaxD),.val (.int .i64 x.MaxOut)]
def J3 (x:Z8):List G:=[.val (.int .i64 x.At),.val (.int .u8 x.Mask),.val (.int .u64 x.Old),.val (.int .u64 x.New)]
end Go.Proofs.YtmjjjfamipncdaaGreat
