/- Part JD of this seat's mirrors: functions of the seat's program, and the plain functions that they are; each theorem bears its own conditions. -/
import Derived.Test.YtmlcnhambfkjaaaGreatH26
import Derived.Test.YtmlcnhambfkjaaaGreatTy
namespace Go.Proofs.YtmlcnhambfkjaaaGreat
open Go.RowKit
set_option linter.unusedVariables false
set_option linter.unusedSimpArgs false
set_option maxRecDepth 100000
set_option maxHeartbeats 4000000
structure Yi where
 Depth:Int
 Weight:Int
 MaxD:Int
 MaxOut:Int
noncomputable def Gs (a0:Yi):Option Yi :=
 (cond (decide (3000 < a0.Weight)) (some 3000) (some a0.Weight)).bind fun (z1:Int)=>some (⟨a0.Depth,z1,a0.MaxD,a0.MaxOut⟩:Yi)
noncomputable def Ja (a0:Int) (a1:Int):Option Int :=
 cond (decide (a0 < 0)) (some 0) (cond (decide (a1 < a0)) (some a1) (some a0))
noncomputable def U1 (a0:Yi):Option Yi :=
 (Ja a0.Depth 64).bind fun y5=>(Ja a0.Weight 65536).bind fun y6=>(Ja a0.MaxD 4096).bind fun y7=>(Ja a0.MaxOut 131072).bind fun y8=>some (⟨y5,y6,y7,y8⟩:Yi)
noncomputable def Kw (a0:(List (List Int))) (a1:Int) (a2:Int):Option Bool :=
 (cond (decide (0≤a1)) (cond (decide (a1 < (a0.length:Int))) (cond (decide (0≤a2)) ((Xj a0 a1).bind fun x4=>some (cond (cond (cond (decide (0≤a1)) (decide (a1 < (a0.length:Int))) false) (decide (0≤a2)) false) (decide (a2 < (x4.length:Int))) false)) (some false)) (some false)) (some false)).bind fun (z2:Bool)=>some z2
noncomputable def G7 (a1:Int) (s0_:(Int×Int)):Option ((Int×Int) ⊕ Int) :=
 cond (decide (s0_.2 < a1)) (some (.inl ((IntKind.u64.wrap (Int.tdiv s0_.1 2)),(IntKind.i64.wrap (s0_.2+1))))) (some (.inr s0_.1))
noncomputable def G8 (a2:Int) (s1_:(Int×Int×Int×Int)):Option ((Int×Int×Int×Int) ⊕ Int) :=
 cond (decide (s1_.2.2.2 < a2)) ((cond ((Int.tmod s1_.1 2) == 1) (some (IntKind.i64.wrap (s1_.2.1+s1_.2.2.1))) (some s1_.2.1)).bind fun (z3:Int)=>some (.inl ((IntKind.u64.wrap (Int.tdiv s1_.1 2)),z3,(IntKind.i64.wrap (2 * s1_.2.2.1)),(IntKind.i64.wrap (s1_.2.2.2+1))))) (some (.inr s1_.2.1))
noncomputable def Yf (a0:Int) (a1:Int) (a2:Int):Option Int :=
 (Zv (G7 a1) (a0,0)).bind fun (z2:Int)=>(Zv (G8 a2) (z2,0,1,0)).bind fun (z6:Int)=>some z6
structure Yp where
 Kind:Int
 Off:Int
 Data:Int
 Ptrs:Int
 Code:Int
 Count:Int
 Segment:Int
 Double:Bool
noncomputable def X1 (a0:Int):Option Yp :=
 cond (a0 == 0) (some (⟨0,0,0,0,0,0,0,false⟩:Yp)) ((Yf a0 2 30).bind fun y2=>(cond (decide (536870912≤y2)) (some (IntKind.i64.wrap (y2 - 1073741824))) (some y2)).bind fun (z3:Int)=>(Yf a0 0 2).bind fun y6=>cond (y6 == 0) ((Yf a0 32 16).bind fun y9=>(Yf a0 48 16).bind fun y10=>some (⟨1,z3,y9,y10,0,0,0,false⟩:Yp)) (cond (y6 == 1) ((Yf a0 32 3).bind fun y13=>(Yf a0 35 29).bind fun y14=>some (⟨2,z3,0,0,y13,y14,0,false⟩:Yp)) (cond (y6 == 2) ((Yf a0 3 29).bind fun y18=>(Yf a0 32 32).bind fun y19=>(Yf a0 2 1).bind fun y20=>some (⟨3,y18,0,0,0,0,y19,(y20 == 1)⟩:Yp)) (some (⟨4,0,0,0,0,0,0,false⟩:Yp)))))
noncomputable def Kq (a0:Yp):Option Int :=
 cond (a0.Kind == 4) (some 9) (cond (cond (a0.Kind != 1) (a0.Kind != 2) false) (some 8) (some 0))
noncomputable def Gv (a0:Yp):Option Int :=
 cond (a0.Kind == 1) (some (IntKind.i64.wrap (a0.Data+a0.Ptrs))) (cond (a0.Kind != 2) (some (-1)) (cond (a0.Code == 7) (some (IntKind.i64.wrap (a0.Count+1))) (cond (cond (cond (cond (decide (a0.Code < 0)) true (decide (6 < a0.Code))) true (decide (a0.Count < 0))) true (decide (536870912≤a0.Count))) (some (-1)) ((cond (a0.Code == 0) (some (.inr ())) (cond (a0.Code == 1) (some (.inl 64)) (cond (a0.Code == 2) (some (.inl 8)) (cond (a0.Code == 3) (some (.inl 4)) (cond (a0.Code == 4) (some (.inl 2)) (some (.inl 1))))))).bind fun (z1:(Int ⊕ Unit))=>match z1 with | .inl z1=>(Km (z1≠0)).bind fun u8=>cond (decide (0 < (Int.tmod a0.Count z1))) ((Km (z1≠0)).bind fun u10=>some (IntKind.i64.wrap ((IntKind.i64.wrap (Int.tdiv a0.Count z1))+1))) ((Km (z1≠0)).bind fun u12=>some (IntKind.i64.wrap (Int.tdiv a0.Count z1))) | .inr z1=>some 0))))
structure Yj where
 P:Yp
 Segment:Int
 At:Int
noncomputable def Kr (a0:(List (List Int))) (a1:Yj):Option (Yj×Int) :=
 (Gv a1.P).bind fun y2=>(cond (decide (a1.Segment < 0)) (some true) (cond (decide ((a0.length:Int)≤a1.Segment)) (some true) (cond (decide (a1.At < 0)) (some true) ((Xj a0 a1.Segment).bind fun x8=>cond (decide ((x8.length:Int) < a1.At)) (some true) (some (cond (cond (cond (cond (decide (a1.Segment < 0)) true (decide ((a0.length:Int)≤a1.Segment))) true (decide (a1.At < 0))) true (decide ((x8.length:Int) < a1.At))) true (decide ((IntKind.i64.wrap ((x8.length:Int) - a1.At)) < y2)))))))).bind fun (z5:Bool)=>cond z5 (some ((⟨⟨0,0,0,0,0,0,0,false⟩,0,0⟩:Yj),7)) (some ((⟨⟨a1.P.Kind,0,a1.P.Data,a1.P.Ptrs,a1.P.Code,a1.P.Count,a1.P.Segment,a1.P.Double⟩,a1.Segment,a1.At⟩:Yj),0))
noncomputable def Vm (a0:(List (List Int))) (a1:Int) (a2:Int):Option (Yj×Int) :=
 (Kw a0 a1 a2).bind fun y2=>cond (!y2) (some ((⟨⟨0,0,0,0,0,0,0,false⟩,0,0⟩:Yj),7)) ((Xj a0 a1).bind fun x6=>(Xj x6 a2).bind fun x7=>(X1 x7).bind fun y8=>cond (y8.Kind == 0) (some ((⟨⟨0,0,0,0,0,0,0,false⟩,0,0⟩:Yj),0)) (cond (cond (y8.Kind == 3) y8.Double false) (((Kw a0 y8.Segment y8.Off).bind fun y14=>cond y14 ((Kw a0 y8.Segment (IntKind.i64.wrap (y8.Off+1))).bind fun y15=>some (cond (!y14) true (!y15))) (some true)).bind fun (z11:Bool)=>cond z11 (some ((⟨⟨0,0,0,0,0,0,0,false⟩,0,0⟩:Yj),7)) ((Xj a0 y8.Segment).bind fun x17=>(Xj x17 y8.Off).bind fun x18=>(X1 x18).bind fun y19=>(Xj x17 (IntKind.i64.wrap (y8.Off+1))).bind fun x21=>(X1 x21).bind fun y22=>cond (cond (y19.Kind != 3) true y19.Double) (some ((⟨⟨0,0,0,0,0,0,0,false⟩,0,0⟩:Yj),8)) ((Kq y22).bind fun y24=>(cond (cond (y24 == 0) (y22.Off != 0) false) (some 8) (some y24)).bind fun (z25:Int)=>cond (z25 != 0) (some ((⟨⟨0,0,0,0,0,0,0,false⟩,0,0⟩:Yj),z25)) ((Kr a0 (⟨y22,y19.Segment,y19.Off⟩:Yj)).bind fun y28=>some (y28.1,y28.2))))) ((cond (y8.Kind == 3) ((Kw a0 y8.Segment y8.Off).bind fun y34=>cond (!y34) (some (.inr ())) ((Xj a0 y8.Segment).bind fun x35=>(Xj x35 y8.Off).bind fun x36=>(X1 x36).bind fun y37=>some (.inl (y8.Segment,y8.Off,y37.Kind,y37.Off,y37.Data,y37.Ptrs,y37.Code,y37.Count,y37.Segment,y37.Double)))) (some (.inl (a1,a2,y8.Kind,y8.Off,y8.Data,y8.Ptrs,y8.Code,y8.Count,y8.Segment,y8.Double)))).bind fun (z32:((Int×Int×Int×Int×Int×Int×Int×Int×Int×Bool) ⊕ Unit))=>match z32 with | .inl z32=>(Kq (⟨z32.2.2.1,z32.2.2.2.1,z32.2.2.2.2.1,z32.2.2.2.2.2.1,z32.2.2.2.2.2.2.1,z32.2.2.2.2.2.2.2.1,z32.2.2.2.2.2.2.2.2.1,z32.2.2.2.2.2.2.2.2.2⟩:Yp)).bind fun y41=>cond (y41 != 0) (some ((⟨⟨0,0,0,0,0,0,0,false⟩,0,0⟩:Yj),y41)) ((Kr a0 (⟨⟨z32.2.2.1,z32.2.2.2.1,z32.2.2.2.2.1,z32.2.2.2.2.2.1,z32.2.2.2.2.2.2.1,z32.2.2.2.2.2.2.2.1,z32.2.2.2.2.2.2.2.2.1,z32.2.2.2.2.2.2.2.2.2⟩,z32.1,(IntKind.i64.wrap ((IntKind.i64.wrap (z32.2.1+1))+z32.2.2.2.1))⟩:Yj)).bind fun y43=>some (y43.1,y43.2)) | .inr z32=>some ((⟨⟨0,0,0,0,0,0,0,false⟩,0,0⟩:Yj),7))))
structure Zw where
 Kind:Int
 S:Int
 At:Int
 Data:Int
 Ptrs:Int
 Count:Int
 N:Int
noncomputable def Uv (a0:(List (List Int))) (a1:Int) (a2:Int):Option (Zw×Int) :=
 (Vm a0 a1 a2).bind fun y2=>cond (cond (y2.2 != 0) true (y2.1.P.Kind == 0)) (some ((⟨0,0,0,0,0,0,0⟩:Zw),y2.2)) (cond (y2.1.P.Kind == 1) (some ((⟨1,y2.1.Segment,y2.1.At,y2.1.P.Data,y2.1.P.Ptrs,0,0⟩:Zw),0)) (cond (decide (y2.1.P.Code < 7)) (some ((⟨(IntKind.i64.wrap (2+y2.1.P.Code)),y2.1.Segment,y2.1.At,0,0,y2.1.P.Count,0⟩:Zw),0)) ((Xj a0 y2.1.Segment).bind fun x5=>(Xj x5 y2.1.At).bind fun x6=>(X1 x6).bind fun y8=>cond (cond (cond (cond (x6 != 0) (y8.Kind != 1) false) true (decide (y8.Off < 0))) true (decide (y2.1.P.Count < (IntKind.i64.wrap (y8.Off * (IntKind.i64.wrap (y8.Data+y8.Ptrs))))))) (some ((⟨0,0,0,0,0,0,0⟩:Zw),8)) (some ((⟨9,y2.1.Segment,(IntKind.i64.wrap (y2.1.At+1)),y8.Data,y8.Ptrs,y8.Off,0⟩:Zw),0)))))
noncomputable def Qw (a0:Zw) (a1:(List (List Int))):Option (List Int) :=
 cond (a0.Kind == 10) (some ([a0.N]:List Int)) (cond (a0.Kind != 1) (some ([]:(List Int))) ((Xj a1 a0.S).bind fun x4=>(Zfo x4 a0.At (IntKind.i64.wrap (a0.At+a0.Data))).bind fun l5=>(Zc9 8 ([]:List Int) l5).bind fun l6=>some l6))
noncomputable def Jf (a0:Zw):Option Int :=
 cond (a0.Kind == 1) (some a0.Ptrs) (some a0.Count)
noncomputable def V2 (a0:Int):Option Int :=
 cond (a0 == 0) (some 0) (cond (a0 == 1) (some 1) (cond (a0 == 2) (some 8) (cond (a0 == 3) (some 16) (cond (a0 == 4) (some 32) (cond (a0 == 5) (some 64) (some (-1)))))))
noncomputable def Vk (a1:Int) (s0_:(Int×Int)):Option ((Int×Int) ⊕ Int) :=
 cond (decide (s0_.2 < (Int.tmod a1 64))) (some (.inl ((IntKind.u64.wrap (Int.tdiv s0_.1 2)),(IntKind.i64.wrap (s0_.2+1))))) (some (.inr s0_.1))
noncomputable def Zbh (a0:(List Int)) (a1:Int):Option Int :=
 cond (cond (decide (a1 < 0)) true (decide ((a0.length:Int)≤(IntKind.i64.wrap (Int.tdiv a1 64))))) (some 0) ((Xj a0 (IntKind.i64.wrap (Int.tdiv a1 64))).bind fun x2=>(Zv (Vk a1) (x2,0)).bind fun (z4:Int)=>some (Int.tmod z4 2))
noncomputable def Vl (a0:(List Int)) (a2:Int) (y2:Int) (s0_:(Int×Int)):Option ((Int×Int) ⊕ Int) :=
 cond (decide (0≤s0_.2)) ((Zbh a0 (IntKind.i64.wrap ((IntKind.i64.wrap (a2 * y2))+s0_.2))).bind fun y3=>some (.inl ((IntKind.u64.wrap ((IntKind.u64.wrap (s0_.1 * 2))+y3)),(IntKind.i64.wrap (s0_.2 - 1))))) (some (.inr s0_.1))
noncomputable def Zbi (a0:(List Int)) (a1:Int) (a2:Int):Option Int :=
 (V2 a1).bind fun y2=>cond (cond (cond (decide (y2 < 1)) true (decide (a2 < 0))) true (decide (1099511627776 < a2))) (some 0) ((Zv (Vl a0 a2 y2) (0,(IntKind.i64.wrap (y2 - 1)))).bind fun (z5:Int)=>some z5)
noncomputable def Ky (a0:Zw) (a1:(List (List Int))) (a2:Int):Option (Zw×Int) :=
 (cond (decide (a2 < 0)) (some true) ((Jf a0).bind fun y4=>some (cond (decide (a2 < 0)) true (decide (y4≤a2))))).bind fun (z2:Bool)=>cond z2 (some ((⟨0,0,0,0,0,0,0⟩:Zw),0)) (cond (a0.Kind == 1) ((Uv a1 a0.S (IntKind.i64.wrap ((IntKind.i64.wrap (a0.At+a0.Data))+a2))).bind fun y7=>some (y7.1,y7.2)) (cond (a0.Kind == 8) ((Uv a1 a0.S (IntKind.i64.wrap (a0.At+a2))).bind fun y9=>some (y9.1,y9.2)) (cond (a0.Kind == 9) (some ((⟨1,a0.S,(IntKind.i64.wrap (a0.At+(IntKind.i64.wrap (a2 * (IntKind.i64.wrap (a0.Data+a0.Ptrs)))))),a0.Data,a0.Ptrs,0,0⟩:Zw),0)) ((Xj a1 a0.S).bind fun x13=>(Zfo x13 a0.At (x13.length:Int)).bind fun l14=>(Zbi l14 (IntKind.i64.wrap (a0.Kind - 2)) a2).bind fun y15=>some ((⟨10,0,0,0,0,0,y15⟩:Zw),0)))))
structure Za where
 Kind:Int
 Words:(List Int)
 Kids:(List Za)
noncomputable def Ku (Y4:((List (List Int))→Zw→Int→Int→Option (Za×Int×Int))) (Xu:((List (List Int))→Zw→Int→Int→Option (Za×Int×Int))) (a0:(List (List Int))) (a1:Zw) (a2:Int) (s0_:(Int×Int×(List Za))):Option ((Int×Int×(List Za)) ⊕ ((Int×Int×(List Za)) ⊕ (Int×(List Za)))) :=
 (Jf a1).bind fun y10=>cond (decide (s0_.2.1 < y10)) ((Ky a1 a0 s0_.2.1).bind fun y12=>cond (y12.2 != 0) (some (.inr (.inl (s0_.1,y12.2,s0_.2.2)))) ((Qw y12.1 a0).bind fun y14=>(cond (a1.Kind == 9) ((Xu a0 y12.1 (IntKind.i64.wrap (a2 - 2)) s0_.1).bind fun y16=>some (y16.2.1,y16.2.2,y16.1.Kind,y16.1.Words,y16.1.Kids)) (cond (cond (a1.Kind == 1) true (a1.Kind == 8)) ((Y4 a0 y12.1 (IntKind.i64.wrap (a2 - 1)) s0_.1).bind fun y17=>some (y17.2.1,y17.2.2,y17.1.Kind,y17.1.Words,y17.1.Kids)) (some (s0_.1,y12.2,y12.1.Kind,y14,([]:(List Za)))))).bind fun (z15:(Int×Int×Int×(List Int)×(List Za)))=>cond (z15.2.1 != 0) (some (.inr (.inl (z15.1,z15.2.1,s0_.2.2)))) ((Zc9 56 s0_.2.2 ([(⟨z15.2.2.1,z15.2.2.2.1,z15.2.2.2.2⟩:Za)]:List Za)).bind fun l20=>some (.inl (z15.1,(IntKind.i64.wrap (s0_.2.1+1)),l20))))) (some (.inr (.inr (s0_.1,s0_.2.2))))
noncomputable def Kt (Y4:((List (List Int))→Zw→Int→Int→Option (Za×Int×Int))) (Xu:((List (List Int))→Zw→Int→Int→Option (Za×Int×Int))) (a0:(List (List Int))) (a1:Zw) (a2:Int) (a3:Int):Option (Za×Int×Int) :=
 (Qw a1 a0).bind fun y2=>cond (a1.Kind == 0) (some ((⟨a1.Kind,y2,[]⟩:Za),a3,0)) (cond (cond (decide (a2 < 1)) true (cond (cond (a1.Kind == 9) (decide (0 < a1.Count)) false) (decide (a2 < 2)) false)) (some ((⟨a1.Kind,y2,[]⟩:Za),a3,3)) ((Jf a1).bind fun y4=>(cond (a1.Kind == 1) (some (IntKind.i64.wrap ((IntKind.i64.wrap (1+a1.Data))+a1.Ptrs))) (some (IntKind.i64.wrap (1+y4)))).bind fun (z5:Int)=>(cond (a1.Kind == 9) (some (IntKind.i64.wrap (1+(IntKind.i64.wrap (a1.Count * (IntKind.i64.wrap ((IntKind.i64.wrap (1+a1.Data))+a1.Ptrs))))))) (some z5)).bind fun (z7:Int)=>cond (decide (a3 < z7)) (some ((⟨a1.Kind,y2,[]⟩:Za),a3,3)) ((Zv (Ku Y4 Xu a0 a1 a2) ((IntKind.i64.wrap (a3 - z7)),0,([]:List Za))).bind fun (z24:((Int×Int×(List Za)) ⊕ (Int×(List Za))))=>match z24 with | .inl z24=>some ((⟨a1.Kind,y2,z24.2.2⟩:Za),z24.1,z24.2.1) | .inr z24=>some ((⟨a1.Kind,y2,z24.2⟩:Za),z24.1,0))))
noncomputable def Ub (Y4:((List (List Int))→Zw→Int→Int→Option (Za×Int×Int))) (a0:(List (List Int))) (a1:Zw) (a2:Int) (s0_:(Int×Int×(List Za))):Option ((Int×Int×(List Za)) ⊕ ((Int×Int×(List Za)) ⊕ (Int×(List Za)))) :=
 cond (decide (s0_.2.1 < a1.Ptrs)) ((Ky a1 a0 s0_.2.1).bind fun y4=>cond (y4.2 != 0) (some (.inr (.inl (s0_.1,y4.2,s0_.2.2)))) ((Y4 a0 y4.1 a2 s0_.1).bind fun y6=>cond (y6.2.2 != 0) (some (.inr (.inl (y6.2.1,y6.2.2,s0_.2.2)))) ((Zc9 56 s0_.2.2 ([y6.1]:List Za)).bind fun l7=>some (.inl (y6.2.1,(IntKind.i64.wrap (s0_.2.1+1)),l7))))) (some (.inr (.inr (s0_.1,s0_.2.2))))
noncomputable def Uk (Y4:((List (List Int))→Zw→Int→Int→Option (Za×Int×Int))) (Xu:((List (List Int))→Zw→Int→Int→Option (Za×Int×Int))) (a0:(List (List Int))) (a1:Zw) (a2:Int) (a3:Int):Option (Za×Int×Int) :=
 (Qw a1 a0).bind fun y2=>(Zv (Ub Y4 a0 a1 a2) (a3,0,([]:List Za))).bind fun (z11:((Int×Int×(List Za)) ⊕ (Int×(List Za))))=>match z11 with | .inl z11=>some ((⟨1,y2,z11.2.2⟩:Za),z11.1,z11.2.1) | .inr z11=>some ((⟨1,y2,z11.2⟩:Za),z11.1,0)
noncomputable def Xc:Nat→(((List (List Int))→Zw→Int→Int→Option (Za×Int×Int))×((List (List Int))→Zw→Int→Int→Option (Za×Int×Int)))
 | 0=>((fun _ _ _ _=>none),(fun _ _ _ _=>none))
 | k+1=>(Kt ((Xc k).1) ((Xc k).2),Uk ((Xc k).1) ((Xc k).2))
noncomputable def Zct (a0:(List (List Int))) (a1:Zw) (a2:Int) (a3:Int):Option (Za×Int×Int):=lim fun k=>(Xc k).1 a0 a1 a2 a3
noncomputable def Vn (a0:(List (List Int))) (a1:Yi):Option (Za×Int×Int) :=
 (U1 a1).bind fun y2=>(Uv a0 0 0).bind fun y4=>cond (y4.2 != 0) (some ((⟨0,[],[]⟩:Za),0,y4.2)) ((Zct a0 y4.1 y2.Depth y2.Weight).bind fun y6=>cond (y6.2.2 != 0) (some ((⟨0,[],[]⟩:Za),0,y6.2.2)) (some (y6.1,(IntKind.i64.wrap (y2.Weight - y6.2.1)),0)))
noncomputable def Qj (Qt:(Za→Int→Int→Option Int)) (a0:Za) (a1:Int) (s0_:(Int×Int)):Option ((Int×Int) ⊕ Int) :=
 cond (cond (decide (s0_.2 < (a0.Kids.length:Int))) (decide (0≤s0_.1)) false) ((Xj a0.Kids s0_.2).bind fun x1=>(Qt x1 (IntKind.i64.wrap (a1 - 1)) s0_.1).bind fun y2=>some (.inl (y2,(IntKind.i64.wrap (s0_.2+1))))) (some (.inr s0_.1))
noncomputable def Qq (Qt:(Za→Int→Int→Option Int)) (a0:Za) (a1:Int) (a2:Int):Option Int :=
 cond (cond (a1 == 0) true (decide ((IntKind.i64.wrap ((IntKind.i64.wrap (a2 - 1)) - (a0.Words.length:Int))) < 0))) (some (-1)) ((Zv (Qj Qt a0 a1) ((IntKind.i64.wrap ((IntKind.i64.wrap (a2 - 1)) - (a0.Words.length:Int))),0)).bind fun (z4:Int)=>some z4)
noncomputable def Xb:Nat→(Za→Int→Int→Option Int)
 | 0=>(fun _ _ _=>none)
 | k+1=>Qq ((Xb k))
noncomputable def Kx (a0:Za) (a1:Int) (a2:Int):Option Int:=lim fun k=>(Xb k) a0 a1 a2
structure Zy where
 At:Int
 Mask:Int
 Old:Int
 New:Int
mutual
structure Zi where
 Kind:Int
 Old:Za
 New:Za
 Words:(List Zy)
 Kids:(List Zt)
 List_:Int
 Ops:(List Ya)
structure Zt where
 At:Int
 E:Zi
structure Ya where
 Kind:Int
 N:Int
 L:(List Za)
 E:Zi
end
noncomputable def Jo (X6:(Zi→Int→Int→Option Int)) (a0:Zi) (a1:Int) (s0_:(Int×Int)):Option ((Int×Int) ⊕ Int) :=
 cond (cond (decide (s0_.2 < (a0.Kids.length:Int))) (decide (0≤s0_.1)) false) ((Xj a0.Kids s0_.2).bind fun x6=>(X6 x6.E (IntKind.i64.wrap (a1 - 1)) s0_.1).bind fun y8=>some (.inl (y8,(IntKind.i64.wrap (s0_.2+1))))) (some (.inr s0_.1))
noncomputable def Uc (a0:Zi) (s1_:(Int×Int)) (s2_:(Int×Int)):Option ((Int×Int) ⊕ Int) :=
 (Xj a0.Ops s1_.2).bind fun x14=>cond (cond (decide (s2_.2 < (x14.L.length:Int))) (decide (0≤s2_.1)) false) ((Xj a0.Ops s1_.2).bind fun x16=>(Xj x16.L s2_.2).bind fun x18=>(Kx x18 80 s2_.1).bind fun y19=>some (.inl (y19,(IntKind.i64.wrap (s2_.2+1))))) (some (.inr s2_.1))
noncomputable def Jp (X6:(Zi→Int→Int→Option Int)) (a0:Zi) (a1:Int) (s1_:(Int×Int)):Option ((Int×Int) ⊕ Int) :=
 cond (cond (decide (s1_.2 < (a0.Ops.length:Int))) (decide (0≤s1_.1)) false) (((Zv (Uc a0 s1_) (s1_.1,0)).bind fun (z21:Int)=>cond (decide (0≤z21)) ((Xj a0.Ops s1_.2).bind fun x22=>(X6 x22.E (IntKind.i64.wrap (a1 - 1)) z21).bind fun y24=>some y24) (some z21)).bind fun (z11:Int)=>some (.inl (z11,(IntKind.i64.wrap (s1_.2+1))))) (some (.inr s1_.1))
noncomputable def J6 (X6:(Zi→Int→Int→Option Int)) (a0:Zi) (a1:Int) (a2:Int):Option Int :=
 cond (cond (a1 == 0) true (decide ((IntKind.i64.wrap ((IntKind.i64.wrap ((IntKind.i64.wrap (a2 - 1)) - (a0.Words.length:Int))) - (a0.Ops.length:Int))) < 0))) (some (-1)) ((Kx a0.Old 80 (IntKind.i64.wrap ((IntKind.i64.wrap ((IntKind.i64.wrap (a2 - 1)) - (a0.Words.length:Int))) - (a0.Ops.length:Int)))).bind fun y2=>(cond (decide (0≤y2)) ((Kx a0.New 80 y2).bind fun y4=>some y4) (some y2)).bind fun (z3:Int)=>(Zv (Jo X6 a0 a1) (z3,0)).bind fun (z10:Int)=>(Zv (Jp X6 a0 a1) (z10,0)).bind fun (z27:Int)=>some z27)
noncomputable def Y3:Nat→(Zi→Int→Int→Option Int)
 | 0=>(fun _ _ _=>none)
 | k+1=>J6 ((Y3 k))
noncomputable def Zeq (a0:Zi) (a1:Int) (a2:Int):Option Int:=lim fun k=>(Y3 k) a0 a1 a2
noncomputable def Zbj (a0:Zi):Option Bool :=
 (Zeq a0 80 3000).bind fun y2=>some (decide (0≤y2))
noncomputable def J7 (a0:Za):Option Bool :=
 some (cond (a0.Kind == 0) ((IntKind.i64.wrap ((a0.Words.length:Int)+(a0.Kids.length:Int))) == 0) false)
noncomputable def Qs (y2:Int) (s0_:(Int×Int)):Option ((Int×Int) ⊕ Int) :=
 cond (decide (s0_.2 < y2)) (some (.inl ((IntKind.u64.wrap (Int.tdiv s0_.1 2)),(IntKind.i64.wrap (s0_.2+1))))) (some (.inr s0_.1))
noncomputable def Un (a0:Int) (a1:Int):Option Bool :=
 (V2 a0).bind fun y2=>cond (decide (y2 < 0)) (some false) ((Zv (Qs y2) (a1,0)).bind fun (z4:Int)=>some (z4 == 0))
noncomputable def Vs (Jt:(Za→Int→Option Bool)) (a0:Za) (a1:Int) (s0_:Int):Option (Int ⊕ (Unit ⊕ Unit)) :=
 cond (decide (s0_ < (a0.Kids.length:Int))) ((Xj a0.Kids s0_).bind fun x2=>(Jt x2 (IntKind.i64.wrap (a1 - 1))).bind fun y4=>cond (!y4) (some (.inr (.inl ()))) ((cond ((cond (decide (2≤a0.Kind)) (decide (a0.Kind≤7)) false) != (x2.Kind == 10)) (some true) (cond (a0.Kind == 9) (cond (x2.Kind != 1) (some true) (cond (decide (2≤a0.Kind)) (cond (decide (a0.Kind≤7)) ((Xj x2.Words 0).bind fun x14=>(Un (IntKind.i64.wrap (a0.Kind - 2)) x14).bind fun y15=>some (cond (cond ((cond (decide (2≤a0.Kind)) (decide (a0.Kind≤7)) false) != (x2.Kind == 10)) true (cond (a0.Kind == 9) (x2.Kind != 1) false)) true (cond (cond (decide (2≤a0.Kind)) (decide (a0.Kind≤7)) false) (!y15) false))) (some (cond (cond ((cond (decide (2≤a0.Kind)) (decide (a0.Kind≤7)) false) != (x2.Kind == 10)) true (cond (a0.Kind == 9) (x2.Kind != 1) false)) true false))) (some (cond (cond ((cond (decide (2≤a0.Kind)) (decide (a0.Kind≤7)) false) != (x2.Kind == 10)) true (cond (a0.Kind == 9) (x2.Kind != 1) false)) true false)))) (cond (decide (2≤a0.Kind)) (cond (decide (a0.Kind≤7)) ((Xj x2.Words 0).bind fun x16=>(Un (IntKind.i64.wrap (a0.Kind - 2)) x16).bind fun y17=>some (cond (cond ((cond (decide (2≤a0.Kind)) (decide (a0.Kind≤7)) false) != (x2.Kind == 10)) true (cond (a0.Kind == 9) (x2.Kind != 1) false)) true (cond (cond (decide (2≤a0.Kind)) (decide (a0.Kind≤7)) false) (!y17) false))) (some (cond (cond ((cond (decide (2≤a0.Kind)) (decide (a0.Kind≤7)) false) != (x2.Kind == 10)) true (cond (a0.Kind == 9) (x2.Kind != 1) false)) true false))) (some (cond (cond ((cond (decide (2≤a0.Kind)) (decide (a0.Kind≤7)) false) != (x2.Kind == 10)) true (cond (a0.Kind == 9) (x2.Kind != 1) false)) true false))))).bind fun (z9:Bool)=>cond z9 (some (.inr (.inl ()))) (some (.inl (IntKind.i64.wrap (s0_+1)))))) (some (.inr (.inr ())))
noncomputable def Gj (Jt:(Za→Int→Option Bool)) (a0:Za) (a1:Int):Option Bool :=
 cond (a0.Kind == 0) (some (cond ((a0.Words.length:Int) == 0) ((a0.Kids.length:Int) == 0) false)) (cond (a0.Kind == 10) (some (cond ((a0.Words.length:Int) == 1) ((a0.Kids.length:Int) == 0) false)) (cond (cond (cond (cond (cond (cond (decide (a0.Kind < 0)) true (decide (10 < a0.Kind))) true (a1 == 0)) true (decide (65536≤(a0.Words.length:Int)))) true (cond (a0.Kind == 1) (decide (65536≤(a0.Kids.length:Int))) false)) true (decide (1048576≤(a0.Kids.length:Int)))) (some false) (cond (cond (decide (1 < a0.Kind)) (decide (0 < (a0.Words.length:Int))) false) (some false) ((Zv (Vs Jt a0 a1) 0).bind fun (z28:(Unit ⊕ Unit))=>match z28 with | .inl z28=>some false | .inr z28=>some true))))
noncomputable def J0:Nat→(Za→Int→Option Bool)
 | 0=>(fun _ _=>none)
 | k+1=>Gj ((J0 k))
noncomputable def Gw (a0:Za) (a1:Int):Option Bool:=lim fun k=>(J0 k) a0 a1
noncomputable def Vv (s0_:(Int×Int×(Arr Int 8))):Option ((Int×Int×(Arr Int 8)) ⊕ (Arr Int 8)) :=
 cond (decide (s0_.2.1 < 8)) ((Xj s0_.2.2.1 s0_.2.1).bind fun x15=>some (.inl ((IntKind.u64.wrap (Int.tdiv s0_.1 256)),(IntKind.i64.wrap (s0_.2.1+1)),(Arr.put s0_.2.2 s0_.2.1 (IntKind.u8.wrap (Int.tmod s0_.1 256)))))) (some (.inr s0_.2.2))
noncomputable def V1 (a0:Int):Option (Arr Int 8) :=
 ((some (⟨[0,0,0,0,0,0,0,0],rfl⟩:(Arr Int 8)))).bind fun y3=>((some (⟨[0,0,0,0,0,0,0,0],rfl⟩:(Arr Int 8)))).bind fun y9=>(Zv (Vv) (a0,0,y9)).bind fun (z18:(Arr Int 8))=>some z18
noncomputable def Ke (a1:Int) (s0_:(Int×Int)):Option ((Int×Int) ⊕ Int) :=
 cond (decide (s0_.2 < a1)) (some (.inl ((IntKind.u8.wrap (Int.tdiv s0_.1 2)),(IntKind.i64.wrap (s0_.2+1))))) (some (.inr s0_.1))
noncomputable def Gt (a0:Int) (a1:Int):Option Bool :=
 (Zv (Ke a1) (a0,0)).bind fun (z2:Int)=>some ((Int.tmod z2 2) == 1)
noncomputable def Gu (a0:(List Int)) (a1:Int) (s0_:(Int×Int)):Option ((Int×Int) ⊕ Int) :=
 cond (decide (0≤s0_.2)) ((Xj a0 (IntKind.i64.wrap (a1+s0_.2))).bind fun x1=>some (.inl ((IntKind.u64.wrap ((IntKind.u64.wrap (s0_.1 * 256))+(IntKind.u64.wrap x1))),(IntKind.i64.wrap (s0_.2 - 1))))) (some (.inr s0_.1))
noncomputable def Zdx (a0:(List Int)) (a1:Int):Option Int :=
 (Zv (Gu a0 a1) (0,7)).bind fun (z3:Int)=>some z3
noncomputable def U0 (a2:Int) (y9:(Arr Int 8)) (s0_:(Int×(Arr Int 8))):Option ((Int×(Arr Int 8)) ⊕ (Arr Int 8)) :=
 cond (decide (s0_.1 < 8)) (((Gt a2 s0_.1).bind fun y17=>cond y17 ((Xj y9.1 s0_.1).bind fun x18=>(Xj s0_.2.1 s0_.1).bind fun x19=>some (Arr.put s0_.2 s0_.1 x18)) (some s0_.2)).bind fun (z15:(Arr Int 8))=>some (.inl ((IntKind.i64.wrap (s0_.1+1)),z15))) (some (.inr s0_.2))
noncomputable def Jx (a0:Int) (a1:Int) (a2:Int):Option Int :=
 (V1 a0).bind fun y8=>(V1 a1).bind fun y9=>((some (⟨[0,0,0,0,0,0,0,0],rfl⟩:(Arr Int 8)))).bind fun y10=>(Zv (U0 a2 y9) (0,y8)).bind fun (z23:(Arr Int 8))=>(Zdx z23.1 0).bind fun y29=>some y29
noncomputable def Vo (a0:Int) (a1:Int):Option Bool :=
 (Jx a0 0 a1).bind fun y2=>some (y2 == 0)
noncomputable def Up (a0:Zi):Option Bool :=
 (cond (a0.Kind == 0) ((J7 a0.Old).bind fun y6=>cond y6 ((J7 a0.New).bind fun y7=>some (cond (cond (cond (cond (a0.Kind == 0) y6 false) y7 false) ((IntKind.i64.wrap ((IntKind.i64.wrap ((a0.Words.length:Int)+(a0.Kids.length:Int)))+(a0.Ops.length:Int))) == 0) false) (a0.List_ == 0) false)) (some false)) (some false)).bind fun (z3:Bool)=>some z3
noncomputable def K0 (a0:Zi) (s0_:(Int×Int×Int)):Option ((Int×Int×Int) ⊕ (Int×Int)) :=
 cond (decide (s0_.2.2 < (a0.Ops.length:Int))) (((Xj a0.Ops s0_.2.2).bind fun x3=>(cond (x3.Kind == 3) (some 1) (some (IntKind.i64.wrap (x3.N+(x3.L.length:Int))))).bind fun (z4:Int)=>(cond (x3.Kind != 2) (some (IntKind.i64.wrap (s0_.1+z4))) (some s0_.1)).bind fun (z6:Int)=>(cond (x3.Kind != 1) (some (IntKind.i64.wrap (s0_.2.1+z4))) (some s0_.2.1)).bind fun (z8:Int)=>(cond (decide (1048576 < z6)) (some 1048576) (some z6)).bind fun (z10:Int)=>cond (decide (1048576 < z8)) (some (z10,1048576)) (some (z10,z8))).bind fun (z1:(Int×Int))=>some (.inl (z1.1,z1.2,(IntKind.i64.wrap (s0_.2.2+1))))) (some (.inr (s0_.1,s0_.2.1)))
noncomputable def Kz (a0:Zi):Option (Int×Int) :=
 (Zv (K0 a0) (0,0,0)).bind fun (z14:(Int×Int))=>some (z14.1,z14.2)
noncomputable def Kb (a0:Zi) (s0_:(Int×Int)):Option ((Int×Int) ⊕ (Unit ⊕ Unit)) :=
 cond (decide (s0_.2 < (a0.Words.length:Int))) ((Xj a0.Words s0_.2).bind fun x19=>(cond (decide (x19.At≤s0_.1)) (some true) (cond (decide (65534 < x19.At)) (some true) (cond (x19.Mask == 0) (some true) ((Vo x19.Old x19.Mask).bind fun y25=>cond y25 ((Vo x19.New x19.Mask).bind fun y26=>some (cond (cond (cond (cond (decide (x19.At≤s0_.1)) true (decide (65534 < x19.At))) true (x19.Mask == 0)) true (!y25)) true (!y26))) (some true))))).bind fun (z22:Bool)=>cond z22 (some (.inr (.inl ()))) (some (.inl (x19.At,(IntKind.i64.wrap (s0_.2+1)))))) (some (.inr (.inr ())))
noncomputable def Kc (Xo:(Zi→Int→Option Bool)) (a0:Zi) (a1:Int) (s1_:(Int×Int)):Option ((Int×Int) ⊕ (Unit ⊕ Unit)) :=
 cond (decide (s1_.2 < (a0.Kids.length:Int))) ((Xj a0.Kids s1_.2).bind fun x35=>(cond (decide (x35.At≤s1_.1)) (some true) (cond (decide (65534 < x35.At)) (some true) (cond (x35.E.Kind == 0) (some true) ((Xo x35.E (IntKind.i64.wrap (a1 - 1))).bind fun y39=>some (cond (cond (cond (decide (x35.At≤s1_.1)) true (decide (65534 < x35.At))) true (x35.E.Kind == 0)) true (!y39)))))).bind fun (z37:Bool)=>cond z37 (some (.inr (.inl ()))) (some (.inl (x35.At,(IntKind.i64.wrap (s1_.2+1)))))) (some (.inr (.inr ())))
noncomputable def Jd (Qh:(Int→Ya→Int→Option Bool)) (a0:Zi) (a1:Int) (s2_:Int):Option (Int ⊕ (Unit ⊕ Unit)) :=
 cond (decide (s2_ < (a0.Ops.length:Int))) ((Xj a0.Ops s2_).bind fun x48=>(Qh a0.List_ x48 (IntKind.i64.wrap (a1 - 1))).bind fun y49=>cond (!y49) (some (.inr (.inl ()))) (some (.inl (IntKind.i64.wrap (s2_+1))))) (some (.inr (.inr ())))
noncomputable def Gl (Xo:(Zi→Int→Option Bool)) (Qh:(Int→Ya→Int→Option Bool)) (a0:Zi) (a1:Int):Option Bool :=
 cond (cond (cond (a1 == 0) true (decide (a0.Kind < 0))) true (decide (3 < a0.Kind))) (some false) ((cond (a0.Kind != 1) ((J7 a0.Old).bind fun y6=>cond y6 ((J7 a0.New).bind fun y7=>some (cond (cond (cond (a0.Kind != 1) (!(cond y6 y7 false)) false) true (cond (a0.Kind != 2) (decide (0 < (IntKind.i64.wrap ((a0.Words.length:Int)+(a0.Kids.length:Int))))) false)) true (cond (a0.Kind != 3) (cond (a0.List_ != 0) true (decide (0 < (a0.Ops.length:Int)))) false))) (some true)) (some (cond (cond (a0.Kind != 2) (decide (0 < (IntKind.i64.wrap ((a0.Words.length:Int)+(a0.Kids.length:Int))))) false) true (cond (a0.Kind != 3) (cond (a0.List_ != 0) true (decide (0 < (a0.Ops.length:Int)))) false)))).bind fun (z3:Bool)=>cond z3 (some false) (cond (a0.Kind == 1) (((Gw a0.Old 64).bind fun y15=>cond y15 ((Gw a0.New 64).bind fun y16=>some (cond (cond (cond y15 y16 false) (a0.Old.Kind != 10) false) (a0.New.Kind != 10) false)) (some false)).bind fun (z12:Bool)=>some z12) ((Zv (Kb a0) ((-1),0)).bind fun (z33:(Unit ⊕ Unit))=>match z33 with | .inl z33=>some false | .inr z33=>(Zv (Kc Xo a0 a1) ((-1),0)).bind fun (z45:(Unit ⊕ Unit))=>match z45 with | .inl z45=>some false | .inr z45=>cond (cond (a0.Kind == 3) (cond (decide (a0.List_ < 2)) true (decide (9 < a0.List_))) false) (some false) ((Zv (Jd Qh a0 a1) 0).bind fun (z52:(Unit ⊕ Unit))=>match z52 with | .inl z52=>some false | .inr z52=>(Kz a0).bind fun y54=>some (cond (decide (y54.1 < 1048576)) (decide (y54.2 < 1048576)) false)))))
noncomputable def Gm (a0:Int) (a1:Ya) (s0_:Int):Option (Int ⊕ (Unit ⊕ Unit)) :=
 cond (decide (s0_ < (a1.L.length:Int))) ((Zfo a1.L s0_ (IntKind.i64.wrap (s0_+1))).bind fun l10=>(Gw (⟨a0,[],l10⟩:Za) 64).bind fun y11=>cond (!y11) (some (.inr (.inl ()))) (some (.inl (IntKind.i64.wrap (s0_+1))))) (some (.inr (.inr ())))
noncomputable def Zb5 (Xo:(Zi→Int→Option Bool)) (Qh:(Int→Ya→Int→Option Bool)) (a0:Int) (a1:Ya) (a2:Int):Option Bool :=
 cond (a1.Kind == 0) ((cond (decide (1≤a1.N)) (cond (decide (a1.N≤1048576)) (cond ((a1.L.length:Int) == 0) ((Up a1.E).bind fun y4=>some (cond (cond (cond (decide (1≤a1.N)) (decide (a1.N≤1048576)) false) ((a1.L.length:Int) == 0) false) y4 false)) (some false)) (some false)) (some false)).bind fun (z2:Bool)=>some z2) (cond (cond (cond (a1.N != 0) true (decide (a1.Kind < 0))) true (decide (3 < a1.Kind))) (some false) (cond (decide (a1.Kind < 3)) ((Zv (Gm a0 a1) 0).bind fun (z14:(Unit ⊕ Unit))=>match z14 with | .inl z14=>some false | .inr z14=>(cond (decide (0 < (a1.L.length:Int))) ((Up a1.E).bind fun y18=>some (cond (decide (0 < (a1.L.length:Int))) y18 false)) (some false)).bind fun (z16:Bool)=>some z16) ((cond (decide (0 < (a1.L.length:Int))) (some true) (cond (a1.E.Kind == 0) (some true) (cond (decide (a0≤7)) (some true) ((Xo a1.E a2).bind fun y23=>some (cond (cond (cond (decide (0 < (a1.L.length:Int))) true (a1.E.Kind == 0)) true (decide (a0≤7))) true (!y23)))))).bind fun (z21:Bool)=>cond z21 (some false) (some (cond (cond (a0 == 8) true (a1.E.Kind == 2)) true (cond (cond (a1.E.Kind == 1) (a1.E.Old.Kind == 1) false) (a1.E.New.Kind == 1) false))))))
noncomputable def Yu:Nat→((Zi→Int→Option Bool)×(Int→Ya→Int→Option Bool))
 | 0=>((fun _ _=>none),(fun _ _ _=>none))
 | k+1=>(Gl ((Yu k).1) ((Yu k).2),Zb5 ((Yu k).1) ((Yu k).2))
noncomputable def Zd3 (a0:Zi) (a1:Int):Option Bool:=lim fun k=>(Yu k).1 a0 a1
noncomputable def Vt (Xx:(Zi→Option Bool)) (a0:Zi) (s0_:Int):Option (Int ⊕ (Unit ⊕ Unit)) :=
 cond (decide (s0_ < (a0.Kids.length:Int))) ((Xj a0.Kids s0_).bind fun x6=>(Xx x6.E).bind fun y8=>cond (!y8) (some (.inr (.inl ()))) (some (.inl (IntKind.i64.wrap (s0_+1))))) (some (.inr (.inr ())))
noncomputable def Vu (Xx:(Zi→Option Bool)) (a0:Zi) (s1_:Int):Option (Int ⊕ (Unit ⊕ Unit)) :=
 cond (decide (s1_ < (a0.Ops.length:Int))) ((Xj a0.Ops s1_).bind fun x15=>(Xx x15.E).bind fun y17=>cond (!y17) (some (.inr (.inl ()))) (some (.inl (IntKind.i64.wrap (s1_+1))))) (some (.inr (.inr ())))
noncomputable def Gk (Xx:(Zi→Option Bool)) (a0:Zi):Option Bool :=
 (Kz a0).bind fun y2=>cond (cond (decide (2000 < y2.1)) true (decide (2000 < y2.2))) (some false) ((Zv (Vt Xx a0) 0).bind fun (z11:(Unit ⊕ Unit))=>match z11 with | .inl z11=>some false | .inr z11=>(Zv (Vu Xx a0) 0).bind fun (z20:(Unit ⊕ Unit))=>match z20 with | .inl z20=>some false | .inr z20=>some true)
noncomputable def J3:Nat→(Zi→Option Bool)
 | 0=>(fun _=>none)
 | k+1=>Gk ((J3 k))
noncomputable def Zd2 (a0:Zi):Option Bool:=lim fun k=>(J3 k) a0
noncomputable def Zas (a0:Zi):Option Bool :=
 ((Zbj a0).bind fun y8=>cond y8 ((Zd3 a0 64).bind fun y9=>cond y9 ((Zd2 a0).bind fun y10=>some (cond (cond y8 y9 false) y10 false)) (some false)) (some false)).bind fun (z4:Bool)=>some z4
noncomputable def X3 (a0:List Int):Option (List Int) :=
 Zc9 8 ([]:List Int) a0
noncomputable def Gf (a0:(List (List Int))) (s0_:(Int×(List (List Int)))):Option ((Int×(List (List Int))) ⊕ (List (List Int))) :=
 cond (decide (s0_.1 < (a0.length:Int))) ((Xj a0 s0_.1).bind fun x4=>(X3 x4).bind fun y5=>(Xj s0_.2 s0_.1).bind fun x6=>some (.inl ((IntKind.i64.wrap (s0_.1+1)),(Zic s0_.2 s0_.1 y5)))) (some (.inr s0_.2))
noncomputable def Zds (a0:(List (List Int))):Option (List (List Int)) :=
 (Zlb 24 (a0.length:Int) ([]:(List Int))).bind fun l2=>(Zv (Gf a0) (0,l2)).bind fun (z9:(List (List Int)))=>some z9
structure Zn where
 segments:(List (List Int))
 size:Int
 left:Int
noncomputable def Zhi (a0:(List (List Int))):Option (Option Zn) :=
 (Zds a0).bind fun y2=>some (some (⟨y2,0,0⟩:Zn))
noncomputable def Zcj (a0:(Option Zn)):Option Int :=
 cond (Option.isNone a0) (some 0) ((a0).bind fun x4=>some (x4.segments.length:Int))
noncomputable def Vj (a0:(Option Zn)) (a1:Int):Option Bool :=
 (cond (decide (0≤a1)) ((Zcj a0).bind fun y4=>some (cond (decide (0≤a1)) (decide (a1 < y4)) false)) (some false)).bind fun (z2:Bool)=>some z2
noncomputable def V0 (a0:(Option Zn)) (a1:Int):Option Int :=
 (Vj a0 a1).bind fun y2=>cond (!y2) (some 0) ((a0).bind fun x5=>(Xj x5.segments a1).bind fun x6=>some (x6.length:Int))
noncomputable def Ve (a0:(Option Zn)) (a1:Int) (a2:Int) (a3:Int):Option Bool :=
 ((Vj a0 a1).bind fun y8=>cond y8 (cond (decide (0≤a2)) (cond (decide (0≤a3)) ((V0 a0 a1).bind fun y9=>cond (decide (a3≤y9)) ((V0 a0 a1).bind fun y10=>some (cond (cond (cond (cond y8 (decide (0≤a2)) false) (decide (0≤a3)) false) (decide (a3≤y9)) false) (decide (a2≤(IntKind.i64.wrap (y10 - a3)))) false)) (some false)) (some false)) (some false)) (some false)).bind fun (z4:Bool)=>some z4
noncomputable def Jh (a0:(Option Zn)) (a1:Int) (a2:Int):Option (Int×Bool) :=
 (Ve a0 a1 a2 1).bind fun y2=>cond (!y2) (some (0,false)) ((a0).bind fun x6=>(Xj x6.segments a1).bind fun x7=>(Xj x7 a2).bind fun x8=>some (x8,true))
noncomputable def Zev (a0:Int):Option Int :=
 some (IntKind.i64.wrap (Int.fdiv (IntKind.i32.wrap (IntKind.u32.wrap a0)) (2 ^ min (Int.toNat 2) 32)))
noncomputable def Jb (a0:Int) (a1:Int) (a2:Int):Option Int :=
 (Km (0≤a1)).bind fun u3=>(Km (0≤a2)).bind fun u4=>some (IntKind.i64.wrap (IntKind.u64.wrap (Uz .u64 (Int.fdiv a0 (2 ^ min (Int.toNat a1) 64)) (IntKind.u64.wrap ((IntKind.u64.wrap (1 * 2 ^ min (Int.toNat a2) 64)) - 1)))))
noncomputable def V8 (a0:Int):Option Yp :=
 cond (a0 == 0) (some (⟨0,0,0,0,0,0,0,false⟩:Yp)) (cond ((IntKind.u64.wrap (Uz .u64 a0 3)) == 0) ((Zev a0).bind fun y4=>(Jb a0 32 16).bind fun y5=>(Jb a0 48 16).bind fun y6=>some (⟨1,y4,y5,y6,0,0,0,false⟩:Yp)) (cond ((IntKind.u64.wrap (Uz .u64 a0 3)) == 1) ((Zev a0).bind fun y10=>(Jb a0 32 3).bind fun y11=>(Jb a0 35 29).bind fun y12=>some (⟨2,y10,0,0,y11,y12,0,false⟩:Yp)) (cond ((IntKind.u64.wrap (Uz .u64 a0 3)) == 2) ((Jb a0 3 29).bind fun y15=>(Jb a0 32 32).bind fun y16=>some (⟨3,y15,0,0,0,0,y16,((IntKind.u64.wrap (Uz .u64 (Int.fdiv a0 (2 ^ min (Int.toNat 2) 64)) 1)) == 1)⟩:Yp)) (some (⟨4,0,0,0,0,0,0,false⟩:Yp)))))
noncomputable def Gr (a0:(Option Zn)) (a1:Int) (a2:Int) (a3:Int):Option ((List Int)×Bool) :=
 (Ve a0 a1 a2 a3).bind fun y2=>cond (!y2) (some (([]:(List Int)),false)) ((a0).bind fun x7=>(Xj x7.segments a1).bind fun x8=>(Zfo x8 a2 (IntKind.i64.wrap (a2+a3))).bind fun l9=>(X3 l9).bind fun y10=>some (y10,true))
noncomputable def Zf2 (a0:Int):Option Int :=
 ((some (⟨[0,1,8,16,32,64,64],rfl⟩:(Arr Int 7)))).bind fun y6=>((some (⟨[0,0,0,0,0,0,0],rfl⟩:(Arr Int 7)))).bind fun y8=>(Xj y6.1 a0).bind fun x12=>some x12
noncomputable def Zb7 (a0:Yp):Option (Int×Bool) :=
 cond (a0.Kind == 1) (some ((IntKind.i64.wrap (a0.Data+a0.Ptrs)),true)) (cond (cond (a0.Kind == 2) (a0.Code == 7) false) (some ((IntKind.i64.wrap (a0.Count+1)),true)) (cond (cond (cond (cond (cond (a0.Kind == 2) (decide (0≤a0.Code)) false) (decide (a0.Code < 7)) false) (decide (0≤a0.Count)) false) (decide (a0.Count≤536870911)) false) ((Zf2 a0.Code).bind fun y2=>some ((IntKind.i64.wrap (Int.tdiv (IntKind.i64.wrap ((IntKind.i64.wrap (a0.Count * y2))+63)) 64)),true)) (some (0,false))))
structure Qi where
 P:Yp
 Segment:Int
 At:Int
noncomputable def Zbz (a0:(Option Zn)) (a1:Yp) (a2:Int) (a3:Int):Option (Qi×Int) :=
 cond (a1.Kind == 4) (some ((⟨⟨0,0,0,0,0,0,0,false⟩,0,0⟩:Qi),9)) ((Zb7 a1).bind fun y2=>cond (!y2.2) (some ((⟨⟨0,0,0,0,0,0,0,false⟩,0,0⟩:Qi),8)) ((Ve a0 a2 a3 y2.1).bind fun y4=>cond (!y4) (some ((⟨⟨0,0,0,0,0,0,0,false⟩,0,0⟩:Qi),7)) (some ((⟨⟨a1.Kind,0,a1.Data,a1.Ptrs,a1.Code,a1.Count,a1.Segment,a1.Double⟩,a2,a3⟩:Qi),0))))
noncomputable def Zet (a0:(Option Zn)) (a1:Int) (a2:Int):Option (Qi×Int) :=
 (Gr a0 a1 a2 2).bind fun y2=>cond (!y2.2) (some ((⟨⟨0,0,0,0,0,0,0,false⟩,0,0⟩:Qi),7)) ((Xj y2.1 0).bind fun x3=>(V8 x3).bind fun y4=>(Xj y2.1 1).bind fun x5=>(V8 x5).bind fun y6=>cond (cond (y4.Kind != 3) true y4.Double) (some ((⟨⟨0,0,0,0,0,0,0,false⟩,0,0⟩:Qi),8)) (cond (cond (y6.Kind != 4) (y6.Off != 0) false) (some ((⟨⟨0,0,0,0,0,0,0,false⟩,0,0⟩:Qi),8)) ((Zbz a0 y6 y4.Segment y4.Off).bind fun y8=>some (y8.1,y8.2))))
noncomputable def Zeu (a0:(Option Zn)) (a1:Int) (a2:Int):Option (Qi×Int) :=
 (Jh a0 a1 a2).bind fun y2=>cond (!y2.2) (some ((⟨⟨0,0,0,0,0,0,0,false⟩,0,0⟩:Qi),7)) ((V8 y2.1).bind fun y4=>(Zbz a0 y4 a1 (IntKind.i64.wrap ((IntKind.i64.wrap (a2+1))+y4.Off))).bind fun y6=>some (y6.1,y6.2))
noncomputable def Zes (a0:(Option Zn)) (a1:Int) (a2:Int):Option (Qi×Int) :=
 (Jh a0 a1 a2).bind fun y2=>cond (!y2.2) (some ((⟨⟨0,0,0,0,0,0,0,false⟩,0,0⟩:Qi),7)) ((V8 y2.1).bind fun y4=>cond (y4.Kind == 0) (some ((⟨⟨0,0,0,0,0,0,0,false⟩,0,0⟩:Qi),0)) (cond (cond (y4.Kind == 3) y4.Double false) ((Zet a0 y4.Segment y4.Off).bind fun y6=>some (y6.1,y6.2)) (cond (y4.Kind == 3) ((Zeu a0 y4.Segment y4.Off).bind fun y8=>some (y8.1,y8.2)) ((Zbz a0 y4 a1 (IntKind.i64.wrap ((IntKind.i64.wrap (a2+1))+y4.Off))).bind fun y10=>some (y10.1,y10.2)))))
structure Zb where
 a:(Option Zn)
 kind:Int
 segment:Int
 at_:Int
 words:Int
 ptrs:Int
 count:Int
 code:Int
 index:Int
noncomputable def Zb0 (a0:Zb):Option (Zb×Int) :=
 (Jh a0.a a0.segment a0.at_).bind fun y2=>(V8 y2.1).bind fun y4=>cond (cond (cond (cond (y4.Kind != 0) (y4.Kind != 1) false) true (decide (y4.Off < 0))) true (decide (a0.count < (IntKind.i64.wrap (y4.Off * (IntKind.i64.wrap (y4.Data+y4.Ptrs))))))) (some ((⟨(none:(Option Zn)),0,0,0,0,0,0,0,0⟩:Zb),8)) (some ((⟨a0.a,a0.kind,a0.segment,a0.at_,y4.Data,y4.Ptrs,y4.Off,a0.code,a0.index⟩:Zb),0))
noncomputable def Zcv (a0:(Option Zn)) (a1:Int) (a2:Int):Option (Zb×Int) :=
 (Zes a0 a1 a2).bind fun y2=>cond (cond (y2.2 != 0) true (y2.1.P.Kind == 0)) (some ((⟨(none:(Option Zn)),0,0,0,0,0,0,0,0⟩:Zb),y2.2)) (cond (y2.1.P.Kind == 1) (some ((⟨a0,1,y2.1.Segment,y2.1.At,y2.1.P.Data,y2.1.P.Ptrs,0,0,0⟩:Zb),0)) (cond (y2.1.P.Code == 7) ((Zb0 (⟨a0,(IntKind.i64.wrap (y2.1.P.Code+2)),y2.1.Segment,y2.1.At,0,0,y2.1.P.Count,0,0⟩:Zb)).bind fun y4=>some (y4.1,y4.2)) (some ((⟨a0,(IntKind.i64.wrap (y2.1.P.Code+2)),y2.1.Segment,y2.1.At,0,0,y2.1.P.Count,0,0⟩:Zb),0))))
noncomputable def Zdt (a0:(Option Zn)):Option (Zb×Int) :=
 (Zcv a0 0 0).bind fun y2=>some (y2.1,y2.2)
noncomputable def Um (a0:(List (List Int))):Option Zb :=
 (Zhi a0).bind fun y3=>(Zdt y3).bind fun y4=>some y4.1
noncomputable def Xf (a0:Zb):Option Int :=
 some a0.kind
noncomputable def Qx (a0:Zb):Option Int :=
 cond (a0.kind == 1) (some a0.words) (cond (a0.kind == 10) (some 1) (some 0))
noncomputable def Xi (a0:Zb):Option Int :=
 cond (a0.kind == 1) (some a0.ptrs) (some a0.count)
noncomputable def Zb9 (a0:Zb):Option Int :=
 (Xf a0).bind fun y2=>cond (y2 == 0) (some 0) (cond (y2 == 1) ((Qx a0).bind fun y5=>(Xi a0).bind fun y6=>some (IntKind.i64.wrap ((IntKind.i64.wrap (1+y5))+y6))) (cond (y2 == 8) ((Xi a0).bind fun y8=>some (IntKind.i64.wrap (1+y8))) (some 1)))
noncomputable def Zcw (a0:Int):Option Bool :=
 some (cond (decide (2≤a0)) (decide (a0≤9)) false)
noncomputable def Zcx (a0:Zb):Option Bool :=
 ((Xf a0).bind fun y8=>cond (y8 == 1) (some true) ((Xf a0).bind fun y9=>(Zcw y9).bind fun y10=>some (cond (y8 == 1) true y10))).bind fun (z4:Bool)=>some z4
noncomputable def Zde (a0:Int):Option (Int×Bool) :=
 ((some (⟨[0,1,8,16,32,64],rfl⟩:(Arr Int 6)))).bind fun y6=>((some (⟨[0,0,0,0,0,0],rfl⟩:(Arr Int 6)))).bind fun y8=>cond (cond (decide (a0 < 0)) true (decide (6≤a0))) (some (0,false)) ((Xj y6.1 a0).bind fun x12=>some (x12,true))
noncomputable def Zhl (a0:(List Int)) (a1:Int) (a2:Int):Option Int :=
 (Zde a1).bind fun y2=>cond (cond (y2.1 == 0) true (decide (a2 < 0))) (some 0) ((Km (y2.1≠0)).bind fun u4=>(Km ((IntKind.i64.wrap (Int.tdiv 64 y2.1))≠0)).bind fun u6=>cond (decide ((a0.length:Int)≤(IntKind.i64.wrap (Int.tdiv a2 (IntKind.i64.wrap (Int.tdiv 64 y2.1)))))) (some 0) ((Km ((IntKind.i64.wrap (Int.tdiv 64 y2.1))≠0)).bind fun u12=>(Xj a0 (IntKind.i64.wrap (Int.tdiv a2 (IntKind.i64.wrap (Int.tdiv 64 y2.1))))).bind fun x13=>(Km ((IntKind.i64.wrap (Int.tdiv 64 y2.1))≠0)).bind fun u14=>(Km (0≤(IntKind.i64.wrap ((Int.tmod a2 (IntKind.i64.wrap (Int.tdiv 64 y2.1))) * y2.1)))).bind fun u15=>(Km (0≤y2.1)).bind fun u16=>some (IntKind.u64.wrap (Uz .u64 (Int.fdiv x13 (2 ^ min (Int.toNat (IntKind.i64.wrap ((Int.tmod a2 (IntKind.i64.wrap (Int.tdiv 64 y2.1))) * y2.1))) 64)) (IntKind.u64.wrap ((IntKind.u64.wrap (1 * 2 ^ min (Int.toNat y2.1) 64)) - 1))))))
noncomputable def U2 (a0:Zb):Option Int :=
 (Zde a0.code).bind fun y2=>cond (y2.1 == 0) (some 0) ((Km (y2.1≠0)).bind fun u4=>(Km ((IntKind.i64.wrap (Int.tdiv 64 y2.1))≠0)).bind fun u7=>(Jh a0.a a0.segment (IntKind.i64.wrap (a0.at_+(IntKind.i64.wrap (Int.tdiv a0.index (IntKind.i64.wrap (Int.tdiv 64 y2.1))))))).bind fun y8=>(Km ((IntKind.i64.wrap (Int.tdiv 64 y2.1))≠0)).bind fun u11=>(Zhl ([y8.1]:List Int) a0.code (Int.tmod a0.index (IntKind.i64.wrap (Int.tdiv 64 y2.1)))).bind fun y12=>some y12)
noncomputable def Qn (a0:Zb) (a1:Int):Option Int :=
 (cond (decide (a1 < 0)) (some true) ((Qx a0).bind fun y4=>some (cond (decide (a1 < 0)) true (decide (y4≤a1))))).bind fun (z2:Bool)=>cond z2 (some 0) (cond (a0.kind == 10) ((U2 a0).bind fun y7=>some y7) ((Jh a0.a a0.segment (IntKind.i64.wrap (a0.at_+a1))).bind fun y9=>some y9.1))
noncomputable def K2 (a0:Zb) (a1:Int):Option (Zb×Int) :=
 (cond (decide (a1 < 0)) (some true) ((Xi a0).bind fun y4=>some (cond (decide (a1 < 0)) true (decide (y4≤a1))))).bind fun (z2:Bool)=>cond z2 (some ((⟨(none:(Option Zn)),0,0,0,0,0,0,0,0⟩:Zb),0)) (cond (a0.kind == 1) ((Zcv a0.a a0.segment (IntKind.i64.wrap ((IntKind.i64.wrap (a0.at_+a0.words))+a1))).bind fun y7=>some (y7.1,y7.2)) (cond (a0.kind == 8) ((Zcv a0.a a0.segment (IntKind.i64.wrap (a0.at_+a1))).bind fun y9=>some (y9.1,y9.2)) (cond (a0.kind == 9) (some ((⟨a0.a,1,a0.segment,(IntKind.i64.wrap ((IntKind.i64.wrap (a0.at_+1))+(IntKind.i64.wrap (a1 * (IntKind.i64.wrap (a0.words+a0.ptrs)))))),a0.words,a0.ptrs,0,0,0⟩:Zb),0)) (some ((⟨a0.a,10,a0.segment,a0.at_,0,0,0,(IntKind.i64.wrap (a0.kind - 2)),a1⟩:Zb),0)))))
structure Z7 where
 left:Int
noncomputable def Xv (a1:Zb) (y12:Int) (s0_:(Int×(List Int))):Option ((Int×(List Int)) ⊕ (List Int)) :=
 cond (decide (s0_.1 < y12)) ((Qn a1 s0_.1).bind fun y13=>(Zc9 8 s0_.2 ([y13]:List Int)).bind fun l14=>some (.inl ((IntKind.i64.wrap (s0_.1+1)),l14))) (some (.inr s0_.2))
noncomputable def Xp (X0:(Z7→Zb→Int→Option (Za×Int×Z7))) (a1:Zb) (a2:Int) (y18:Int) (s1_:(Int×(List Za)×Int)):Option ((Int×(List Za)×Int) ⊕ ((Int×Int) ⊕ ((List Za)×Int))) :=
 cond (decide (s1_.1 < y18)) ((K2 a1 s1_.1).bind fun y20=>cond (y20.2 != 0) (some (.inr (.inl (y20.2,s1_.2.2)))) ((X0 (⟨s1_.2.2⟩:Z7) y20.1 (IntKind.i64.wrap (a2 - 1))).bind fun y22=>cond (y22.2.1 != 0) (some (.inr (.inl (y22.2.1,y22.2.2.left)))) ((Zc9 56 s1_.2.1 ([y22.1]:List Za)).bind fun l23=>some (.inl ((IntKind.i64.wrap (s1_.1+1)),l23,y22.2.2.left))))) (some (.inr (.inr (s1_.2.1,s1_.2.2))))
noncomputable def Xy (X0:(Z7→Zb→Int→Option (Za×Int×Z7))) (a0:Z7) (a1:Zb) (a2:Int):Option (Za×Int×Z7) :=
 (Zb9 a1).bind fun y2=>(cond (decide ((IntKind.i64.wrap (a0.left - y2)) < 0)) (some true) (cond (a2 == 0) ((Zcx a1).bind fun y6=>some (cond (decide ((IntKind.i64.wrap (a0.left - y2)) < 0)) true (cond (a2 == 0) y6 false))) (some (cond (decide ((IntKind.i64.wrap (a0.left - y2)) < 0)) true false)))).bind fun (z4:Bool)=>cond z4 (some ((⟨0,[],[]⟩:Za),3,(⟨(IntKind.i64.wrap (a0.left - y2))⟩:Z7))) ((Xf a1).bind fun y10=>(Qx a1).bind fun y12=>(Zv (Xv a1 y12) (0,([]:List Int))).bind fun (z16:(List Int))=>(Xi a1).bind fun y18=>(Zv (Xp X0 a1 a2 y18) (0,([]:List Za),(IntKind.i64.wrap (a0.left - y2)))).bind fun (z27:((Int×Int) ⊕ ((List Za)×Int)))=>match z27 with | .inl z27=>some ((⟨0,[],[]⟩:Za),z27.1,(⟨z27.2⟩:Z7)) | .inr z27=>some ((⟨y10,z16,z27.1⟩:Za),0,(⟨z27.2⟩:Z7)))
noncomputable def Ys:Nat→(Z7→Zb→Int→Option (Za×Int×Z7))
 | 0=>(fun _ _ _=>none)
 | k+1=>Xy ((Ys k))
noncomputable def Uq (a0:Z7) (a1:Zb) (a2:Int):Option (Za×Int×Z7):=lim fun k=>(Ys k) a0 a1 a2
noncomputable def Gz (a0:Zb):Option (Za×Int) :=
 (Uq (⟨65536⟩:Z7) a0 64).bind fun y2=>some (y2.1,y2.2.1)
noncomputable def Zf3 (a0:Za) (a1:Int):Option Int :=
 cond (cond (decide (a1 < 0)) true (decide ((a0.Words.length:Int)≤a1))) (some 0) ((Xj a0.Words a1).bind fun x2=>some x2)
noncomputable def Zhk (a0:Za) (a1:Int):Option Za :=
 cond (cond (decide (a1 < 0)) true (decide ((a0.Kids.length:Int)≤a1))) (some (⟨0,[],[]⟩:Za)) ((Xj a0.Kids a1).bind fun x2=>some x2)
noncomputable def Gn (a0:Zb) (a1:Za) (y5:Int) (s0_:Int):Option (Int ⊕ (Unit ⊕ Unit)) :=
 cond (decide (s0_ < (if y5 < (a1.Words.length:Int) then (a1.Words.length:Int) else y5))) ((Qn a0 s0_).bind fun y14=>(Zf3 a1 s0_).bind fun y15=>cond (y14 != y15) (some (.inr (.inl ()))) (some (.inl (IntKind.i64.wrap (s0_+1))))) (some (.inr (.inr ())))
noncomputable def Gp (Vp:(Zb→Za→Option (Bool×Int))) (a0:Zb) (a1:Za) (y6:Int) (s1_:Int):Option (Int ⊕ (Int ⊕ Unit)) :=
 cond (decide (s1_ < (if y6 < (a1.Kids.length:Int) then (a1.Kids.length:Int) else y6))) ((K2 a0 s1_).bind fun y20=>cond (y20.2 != 0) (some (.inr (.inl y20.2))) ((Zhk a1 s1_).bind fun y23=>(Vp y20.1 y23).bind fun y24=>cond (cond (!y24.1) true (y24.2 != 0)) (some (.inr (.inl y24.2))) (some (.inl (IntKind.i64.wrap (s1_+1)))))) (some (.inr (.inr ())))
noncomputable def Zb6 (Vp:(Zb→Za→Option (Bool×Int))) (a0:Zb) (a1:Za):Option (Bool×Int) :=
 (Xf a0).bind fun y2=>cond (y2 != a1.Kind) (some (false,0)) ((Qx a0).bind fun y5=>(Xi a0).bind fun y6=>cond (a1.Kind == 0) (some (true,0)) ((cond (a1.Kind != 1) ((Xi a0).bind fun y10=>some (cond (a1.Kind != 1) (y10 != (a1.Kids.length:Int)) false)) (some false)).bind fun (z8:Bool)=>cond z8 (some (false,0)) ((Zv (Gn a0 a1 y5) 0).bind fun (z18:(Unit ⊕ Unit))=>match z18 with | .inl z18=>some (false,0) | .inr z18=>(Zv (Gp Vp a0 a1 y6) 0).bind fun (z28:(Int ⊕ Unit))=>match z28 with | .inl z28=>some (false,z28) | .inr z28=>some (true,0))))
noncomputable def Ge:Nat→(Zb→Za→Option (Bool×Int))
 | 0=>(fun _ _=>none)
 | k+1=>Zb6 ((Ge k))
noncomputable def Zdy (a0:Zb) (a1:Za):Option (Bool×Int):=lim fun k=>(Ge k) a0 a1
noncomputable def Zcu (a0:Zb) (s0_:Int):Option (Int ⊕ Int) :=
 (cond (decide (0 < s0_)) ((Qn a0 (IntKind.i64.wrap (s0_ - 1))).bind fun y6=>some (cond (decide (0 < s0_)) (y6 == 0) false)) (some false)).bind fun (z4:Bool)=>cond z4 (some (.inl (IntKind.i64.wrap (s0_ - 1)))) (some (.inr s0_))
noncomputable def Zf1 (a0:Zb):Option Int :=
 (Qx a0).bind fun y2=>(Zv (Zcu a0) y2).bind fun (z9:Int)=>some z9
noncomputable def Zcz (a0:Int) (s0_:(Int×Int)):Option ((Int×Int) ⊕ Int) :=
 cond (decide (s0_.2 < 8)) (((Km (0≤s0_.2)).bind fun u3=>cond ((IntKind.u8.wrap (Uz .u8 (Int.fdiv a0 (2 ^ min (Int.toNat s0_.2) 8)) 1)) == 1) ((Km (0≤(IntKind.i64.wrap (8 * s0_.2)))).bind fun u4=>some (IntKind.u64.wrap (Zxc .u64 s0_.1 (IntKind.u64.wrap (255 * 2 ^ min (Int.toNat (IntKind.i64.wrap (8 * s0_.2))) 64))))) (some s0_.1)).bind fun (z1:Int)=>some (.inl (z1,(IntKind.i64.wrap (s0_.2+1))))) (some (.inr s0_.1))
noncomputable def Zcy (a0:Int):Option Int :=
 (Zv (Zcz a0) (0,0)).bind fun (z7:Int)=>some z7
noncomputable def Zfi (a0:Int) (a1:Int) (a2:Int):Option Int :=
 (Zcy a2).bind fun y2=>some (IntKind.u64.wrap (Zxc .u64 (IntKind.u64.wrap (Zyy .u64 a0 y2)) (IntKind.u64.wrap (Uz .u64 a1 y2))))
noncomputable def Ki (a1:Zb) (y2:Int) (s0_:(Int×(List Int))):Option ((Int×(List Int)) ⊕ (List Int)) :=
 cond (decide (s0_.1 < y2)) ((Qn a1 s0_.1).bind fun y3=>(Zc9 8 s0_.2 ([y3]:List Int)).bind fun l4=>some (.inl ((IntKind.i64.wrap (s0_.1+1)),l4))) (some (.inr s0_.2))
noncomputable def Q5 (x9:Zy) (y19:Int) (s2_:(List Int)):Option ((List Int) ⊕ (List Int)) :=
 cond (cond (decide ((s2_.length:Int)≤x9.At)) (y19 != 0) false) ((Zc9 8 s2_ ([0]:List Int)).bind fun l20=>some (.inl l20)) (some (.inr s2_))
noncomputable def X8 (a0:(List Zy)) (a1:Zb) (s1_:(Int×(List Int))):Option ((Int×(List Int)) ⊕ (Unit ⊕ (List Int))) :=
 cond (decide (s1_.1 < (a0.length:Int))) (((Xj a0 s1_.1).bind fun x9=>(Qn a1 x9.At).bind fun y11=>(cond (decide (x9.At < 0)) (some true) (cond (decide (65534 < x9.At)) (some true) ((Zcy x9.Mask).bind fun y15=>some (cond (cond (decide (x9.At < 0)) true (decide (65534 < x9.At))) true ((IntKind.u64.wrap (Uz .u64 (IntKind.u64.wrap (Zpl .u64 y11 x9.Old)) y15)) != 0))))).bind fun (z13:Bool)=>cond z13 (some (.inr ())) ((Zfi y11 x9.New x9.Mask).bind fun y19=>(Zv (Q5 x9 y19) s1_.2).bind fun (z22:(List Int))=>cond (decide (x9.At < (z22.length:Int))) ((Xj z22 x9.At).bind fun x23=>some (.inl (Zic z22 x9.At y19))) (some (.inl z22)))).bind fun (z7:((List Int) ⊕ Unit))=>match z7 with | .inl z7=>some (.inl ((IntKind.i64.wrap (s1_.1+1)),z7)) | .inr z7=>some (.inr (.inl ()))) (some (.inr (.inr s1_.2)))
noncomputable def Vw (a0:(List Zy)) (a1:Zb):Option ((List Int)×Int) :=
 (Zf1 a1).bind fun y2=>(Zv (Ki a1 y2) (0,([]:List Int))).bind fun (z6:(List Int))=>(Zv (X8 a0 a1) (0,z6)).bind fun (z28:(Unit ⊕ (List Int)))=>match z28 with | .inl z28=>some (([]:(List Int)),13) | .inr z28=>some (z28,0)
noncomputable def Zad (a0:Int):Option Bool :=
 some (a0 != a0)
noncomputable def Zau (a0:Int) (a1:Int):Option Int :=
 (Zad a0).bind fun y2=>(Zad a1).bind fun y4=>cond y2 (cond y4 (some 0) (some (-1))) (cond y4 (some 1) (cond (decide (a0 < a1)) (some (-1)) (cond (decide (a1 < a0)) (some 1) (some 0))))
noncomputable def V3 (a0:Zt) (a1:Int):Option Int :=
 (Zau a0.At a1).bind fun y2=>some y2
noncomputable def Yy (a0:(List Zt)) (a1:Int) (s0_:(Int×Int)):Option ((Int×Int) ⊕ Int) :=
 cond (decide (s0_.1 < s0_.2)) ((Xj a0 (IntKind.i64.wrap (Int.fdiv (IntKind.u64.wrap (IntKind.i64.wrap (s0_.1+s0_.2))) (2 ^ min (Int.toNat 1) 64)))).bind fun x3=>(V3 x3 a1).bind fun y4=>cond (decide (y4 < 0)) (some (.inl ((IntKind.i64.wrap ((IntKind.i64.wrap (Int.fdiv (IntKind.u64.wrap (IntKind.i64.wrap (s0_.1+s0_.2))) (2 ^ min (Int.toNat 1) 64)))+1)),s0_.2))) (some (.inl (s0_.1,(IntKind.i64.wrap (Int.fdiv (IntKind.u64.wrap (IntKind.i64.wrap (s0_.1+s0_.2))) (2 ^ min (Int.toNat 1) 64))))))) (some (.inr s0_.1))
noncomputable def Y7 (a0:(List Zt)) (a1:Int):Option (Int×Bool) :=
 (Zv (Yy a0 a1) (0,(a0.length:Int))).bind fun (z7:Int)=>(cond (decide (z7 < (a0.length:Int))) ((Xj a0 z7).bind fun x13=>(V3 x13 a1).bind fun y14=>some (cond (decide (z7 < (a0.length:Int))) (y14 == 0) false)) (some false)).bind fun (z10:Bool)=>some (z7,z10)
noncomputable def Zbl (a0:(List Zt)) (a1:Int):Option Zi :=
 (Y7 a0 a1).bind fun y2=>cond (!y2.2) (some (⟨0,⟨0,[],[]⟩,⟨0,[],[]⟩,[],[],0,[]⟩:Zi)) ((Xj a0 y2.1).bind fun x5=>some x5.E)
structure Zj where
 r:Zb
 gone:Int
 out:(List Za)
noncomputable def Kf (a0:Zj):Option (Zb×Int×Zj) :=
 (Xi a0.r).bind fun y2=>cond (a0.gone == y2) (some ((⟨(none:(Option Zn)),0,0,0,0,0,0,0,0⟩:Zb),13,(⟨a0.r,a0.gone,a0.out⟩:Zj))) ((K2 a0.r (IntKind.i64.wrap ((IntKind.i64.wrap (a0.gone+1)) - 1))).bind fun y4=>some (y4.1,y4.2,(⟨a0.r,(IntKind.i64.wrap (a0.gone+1)),a0.out⟩:Zj)))
noncomputable def Xq (a1:(List Za)) (s0_:(Int×(List Za)×(Option Zn)×Int×Int×Int×Int×Int×Int×Int×Int×Int)):Option ((Int×(List Za)×(Option Zn)×Int×Int×Int×Int×Int×Int×Int×Int×Int) ⊕ ((Int×(List Za)×(Option Zn)×Int×Int×Int×Int×Int×Int×Int×Int×Int) ⊕ ((List Za)×(Option Zn)×Int×Int×Int×Int×Int×Int×Int×Int×Int))) :=
 cond (decide (s0_.1 < (a1.length:Int))) ((Xj a1 s0_.1).bind fun x2=>(Kf (⟨⟨s0_.2.2.1,s0_.2.2.2.1,s0_.2.2.2.2.1,s0_.2.2.2.2.2.1,s0_.2.2.2.2.2.2.1,s0_.2.2.2.2.2.2.2.1,s0_.2.2.2.2.2.2.2.2.1,s0_.2.2.2.2.2.2.2.2.2.1,s0_.2.2.2.2.2.2.2.2.2.2.1⟩,s0_.2.2.2.2.2.2.2.2.2.2.2,s0_.2.1⟩:Zj)).bind fun y4=>cond (y4.2.1 != 0) (some (.inr (.inl (y4.2.1,y4.2.2.out,y4.2.2.r.a,y4.2.2.r.kind,y4.2.2.r.segment,y4.2.2.r.at_,y4.2.2.r.words,y4.2.2.r.ptrs,y4.2.2.r.count,y4.2.2.r.code,y4.2.2.r.index,y4.2.2.gone)))) ((Zdy y4.1 x2).bind fun y6=>cond (y6.2 != 0) (some (.inr (.inl (y6.2,y4.2.2.out,y4.2.2.r.a,y4.2.2.r.kind,y4.2.2.r.segment,y4.2.2.r.at_,y4.2.2.r.words,y4.2.2.r.ptrs,y4.2.2.r.count,y4.2.2.r.code,y4.2.2.r.index,y4.2.2.gone)))) (cond (!y6.1) (some (.inr (.inl (13,y4.2.2.out,y4.2.2.r.a,y4.2.2.r.kind,y4.2.2.r.segment,y4.2.2.r.at_,y4.2.2.r.words,y4.2.2.r.ptrs,y4.2.2.r.count,y4.2.2.r.code,y4.2.2.r.index,y4.2.2.gone)))) (some (.inl ((IntKind.i64.wrap (s0_.1+1)),y4.2.2.out,y4.2.2.r.a,y4.2.2.r.kind,y4.2.2.r.segment,y4.2.2.r.at_,y4.2.2.r.words,y4.2.2.r.ptrs,y4.2.2.r.count,y4.2.2.r.code,y4.2.2.r.index,y4.2.2.gone)))))) (some (.inr (.inr (s0_.2.1,s0_.2.2.1,s0_.2.2.2.1,s0_.2.2.2.2.1,s0_.2.2.2.2.2.1,s0_.2.2.2.2.2.2.1,s0_.2.2.2.2.2.2.2.1,s0_.2.2.2.2.2.2.2.2.1,s0_.2.2.2.2.2.2.2.2.2.1,s0_.2.2.2.2.2.2.2.2.2.2.1,s0_.2.2.2.2.2.2.2.2.2.2.2))))
noncomputable def K1 (a0:Zj) (a1:(List Za)):Option (Int×Zj) :=
 (Zv (Xq a1) (0,a0.out,a0.r.a,a0.r.kind,a0.r.segment,a0.r.at_,a0.r.words,a0.r.ptrs,a0.r.count,a0.r.code,a0.r.index,a0.gone)).bind fun (z11:((Int×(List Za)×(Option Zn)×Int×Int×Int×Int×Int×Int×Int×Int×Int) ⊕ ((List Za)×(Option Zn)×Int×Int×Int×Int×Int×Int×Int×Int×Int)))=>match z11 with | .inl z11=>some (z11.1,(⟨⟨z11.2.2.1,z11.2.2.2.1,z11.2.2.2.2.1,z11.2.2.2.2.2.1,z11.2.2.2.2.2.2.1,z11.2.2.2.2.2.2.2.1,z11.2.2.2.2.2.2.2.2.1,z11.2.2.2.2.2.2.2.2.2.1,z11.2.2.2.2.2.2.2.2.2.2.1⟩,z11.2.2.2.2.2.2.2.2.2.2.2,z11.2.1⟩:Zj)) | .inr z11=>some (0,(⟨⟨z11.2.1,z11.2.2.1,z11.2.2.2.1,z11.2.2.2.2.1,z11.2.2.2.2.2.1,z11.2.2.2.2.2.2.1,z11.2.2.2.2.2.2.2.1,z11.2.2.2.2.2.2.2.2.1,z11.2.2.2.2.2.2.2.2.2.1⟩,z11.2.2.2.2.2.2.2.2.2.2,z11.1⟩:Zj))
noncomputable def Ud (Yb:(Zi→Zb→Option (Za×Int))) (Z6:(Zi→Zb→Option (Za×Int))) (Ym:(Zi→Zb→Option (Za×Int))) (Z5:((List Zt)→Zb→Option ((List Za)×Int))) (Z0:(Zj→Ya→Option (Int×Zj))) (Zz:(Zj→Zi→Option (Int×Zj))) (a0:Zi) (a1:Zb):Option (Za×Int) :=
 cond (a0.Kind == 0) ((Gz a1).bind fun y2=>some (y2.1,y2.2)) (cond (a0.Kind == 1) ((Zdy a1 a0.Old).bind fun y4=>(cond (cond (y4.2 == 0) (!y4.1) false) (some 13) (some y4.2)).bind fun (z5:Int)=>some (a0.New,z5)) (cond (a0.Kind == 2) ((Z6 a0 a1).bind fun y8=>some (y8.1,y8.2)) (cond (a0.Kind == 3) ((Ym a0 a1).bind fun y10=>some (y10.1,y10.2)) (some ((⟨0,[],[]⟩:Za),13)))))
noncomputable def Q8 (Yb:(Zi→Zb→Option (Za×Int))) (Z6:(Zi→Zb→Option (Za×Int))) (Ym:(Zi→Zb→Option (Za×Int))) (Z5:((List Zt)→Zb→Option ((List Za)×Int))) (Z0:(Zj→Ya→Option (Int×Zj))) (Zz:(Zj→Zi→Option (Int×Zj))) (a0:Zi) (a1:Zb):Option (Za×Int) :=
 (Xf a1).bind fun y2=>cond (y2 != 1) (some ((⟨0,[],[]⟩:Za),13)) ((Vw a0.Words a1).bind fun y4=>cond (y4.2 != 0) (some ((⟨0,[],[]⟩:Za),y4.2)) ((Z5 a0.Kids a1).bind fun y6=>some ((⟨1,y4.1,y6.1⟩:Za),y6.2)))
noncomputable def Ul (Z0:(Zj→Ya→Option (Int×Zj))) (a0:Zi) (s0_:(Int×(Option Zn)×Int×Int×Int×Int×Int×Int×Int×Int×Int×(List Za))):Option ((Int×(Option Zn)×Int×Int×Int×Int×Int×Int×Int×Int×Int×(List Za)) ⊕ (Int ⊕ ((Option Zn)×Int×Int×Int×Int×Int×Int×Int×Int×Int×(List Za)))) :=
 cond (decide (s0_.1 < (a0.Ops.length:Int))) ((Xj a0.Ops s0_.1).bind fun x10=>(Z0 (⟨⟨s0_.2.1,s0_.2.2.1,s0_.2.2.2.1,s0_.2.2.2.2.1,s0_.2.2.2.2.2.1,s0_.2.2.2.2.2.2.1,s0_.2.2.2.2.2.2.2.1,s0_.2.2.2.2.2.2.2.2.1,s0_.2.2.2.2.2.2.2.2.2.1⟩,s0_.2.2.2.2.2.2.2.2.2.2.1,s0_.2.2.2.2.2.2.2.2.2.2.2⟩:Zj) x10).bind fun y12=>cond (y12.1 != 0) (some (.inr (.inl y12.1))) (some (.inl ((IntKind.i64.wrap (s0_.1+1)),y12.2.r.a,y12.2.r.kind,y12.2.r.segment,y12.2.r.at_,y12.2.r.words,y12.2.r.ptrs,y12.2.r.count,y12.2.r.code,y12.2.r.index,y12.2.gone,y12.2.out)))) (some (.inr (.inr (s0_.2.1,s0_.2.2.1,s0_.2.2.2.1,s0_.2.2.2.2.1,s0_.2.2.2.2.2.1,s0_.2.2.2.2.2.2.1,s0_.2.2.2.2.2.2.2.1,s0_.2.2.2.2.2.2.2.2.1,s0_.2.2.2.2.2.2.2.2.2.1,s0_.2.2.2.2.2.2.2.2.2.2.1,s0_.2.2.2.2.2.2.2.2.2.2.2))))
noncomputable def Kh (Yb:(Zi→Zb→Option (Za×Int))) (Z6:(Zi→Zb→Option (Za×Int))) (Ym:(Zi→Zb→Option (Za×Int))) (Z5:((List Zt)→Zb→Option ((List Za)×Int))) (Z0:(Zj→Ya→Option (Int×Zj))) (Zz:(Zj→Zi→Option (Int×Zj))) (a0:Zi) (a1:Zb):Option (Za×Int) :=
 ((Xf a1).bind fun y6=>cond (y6 != a0.List_) (some true) ((Zcw a0.List_).bind fun y7=>some (cond (y6 != a0.List_) true (!y7)))).bind fun (z3:Bool)=>cond z3 (some ((⟨0,[],[]⟩:Za),13)) ((Zv (Ul Z0 a0) (0,a1.a,a1.kind,a1.segment,a1.at_,a1.words,a1.ptrs,a1.count,a1.code,a1.index,0,([]:List Za))).bind fun (z15:(Int ⊕ ((Option Zn)×Int×Int×Int×Int×Int×Int×Int×Int×Int×(List Za))))=>match z15 with | .inl z15=>some ((⟨0,[],[]⟩:Za),z15) | .inr z15=>(Xi a1).bind fun y17=>cond (decide (z15.2.2.2.2.2.2.2.2.2.1 < y17)) (some ((⟨0,[],[]⟩:Za),13)) (some ((⟨a0.List_,[],z15.2.2.2.2.2.2.2.2.2.2⟩:Za),0)))
noncomputable def Jk (Yb:(Zi→Zb→Option (Za×Int))) (a0:(List Zt)) (a1:Zb) (y2:Int) (s0_:(Int×(List Za))):Option ((Int×(List Za)) ⊕ (Int ⊕ (List Za))) :=
 cond (decide (s0_.1 < y2)) ((K2 a1 s0_.1).bind fun y4=>cond (y4.2 != 0) (some (.inr (.inl y4.2))) ((Zbl a0 s0_.1).bind fun y7=>(Yb y7 y4.1).bind fun y8=>cond (y8.2 != 0) (some (.inr (.inl y8.2))) ((Zc9 56 s0_.2 ([y8.1]:List Za)).bind fun l9=>some (.inl ((IntKind.i64.wrap (s0_.1+1)),l9))))) (some (.inr (.inr s0_.2)))
noncomputable def Jl (x16:Zt) (y20:(Za×Int)) (s2_:(List Za)):Option ((List Za) ⊕ (List Za)) :=
 cond (cond (decide ((s2_.length:Int) < x16.At)) (y20.1.Kind != 0) false) ((Zc9 56 s2_ ([(⟨0,[],[]⟩:Za)]:List Za)).bind fun l23=>some (.inl l23)) (some (.inr s2_))
noncomputable def Xr (Yb:(Zi→Zb→Option (Za×Int))) (a0:(List Zt)) (a1:Zb) (s1_:(Int×(List Za))):Option ((Int×(List Za)) ⊕ (Int ⊕ (List Za))) :=
 cond (decide (s1_.1 < (a0.length:Int))) (((Xj a0 s1_.1).bind fun x16=>(Xi a1).bind fun y18=>cond (decide (x16.At < y18)) (some (.inl s1_.2)) ((Yb x16.E (⟨(none:(Option Zn)),0,0,0,0,0,0,0,0⟩:Zb)).bind fun y20=>(cond (decide (65534 < x16.At)) (some 13) (some y20.2)).bind fun (z21:Int)=>cond (z21 != 0) (some (.inr z21)) ((Zv (Jl x16 y20) s1_.2).bind fun (z25:(List Za))=>cond (x16.At == (z25.length:Int)) ((Zc9 56 z25 ([y20.1]:List Za)).bind fun l26=>some (.inl l26)) (some (.inl z25))))).bind fun (z14:((List Za) ⊕ Int))=>match z14 with | .inl z14=>some (.inl ((IntKind.i64.wrap (s1_.1+1)),z14)) | .inr z14=>some (.inr (.inl z14))) (some (.inr (.inr s1_.2)))
noncomputable def Qr (Yb:(Zi→Zb→Option (Za×Int))) (Z6:(Zi→Zb→Option (Za×Int))) (Ym:(Zi→Zb→Option (Za×Int))) (Z5:((List Zt)→Zb→Option ((List Za)×Int))) (Z0:(Zj→Ya→Option (Int×Zj))) (Zz:(Zj→Zi→Option (Int×Zj))) (a0:(List Zt)) (a1:Zb):Option ((List Za)×Int) :=
 (Xi a1).bind fun y2=>(Zv (Jk Yb a0 a1 y2) (0,([]:List Za))).bind fun (z13:(Int ⊕ (List Za)))=>match z13 with | .inl z13=>some (([]:(List Za)),z13) | .inr z13=>(Zv (Xr Yb a0 a1) (0,z13)).bind fun (z31:(Int ⊕ (List Za)))=>match z31 with | .inl z31=>some (([]:(List Za)),z31) | .inr z31=>some (z31,0)
noncomputable def Q4 (Zz:(Zj→Zi→Option (Int×Zj))) (a1:Ya) (s0_:(Int×(List Za)×(Option Zn)×Int×Int×Int×Int×Int×Int×Int×Int×Int)):Option ((Int×(List Za)×(Option Zn)×Int×Int×Int×Int×Int×Int×Int×Int×Int) ⊕ ((Int×(List Za)×(Option Zn)×Int×Int×Int×Int×Int×Int×Int×Int×Int) ⊕ ((List Za)×(Option Zn)×Int×Int×Int×Int×Int×Int×Int×Int×Int))) :=
 cond (decide (s0_.1 < a1.N)) ((Zz (⟨⟨s0_.2.2.1,s0_.2.2.2.1,s0_.2.2.2.2.1,s0_.2.2.2.2.2.1,s0_.2.2.2.2.2.2.1,s0_.2.2.2.2.2.2.2.1,s0_.2.2.2.2.2.2.2.2.1,s0_.2.2.2.2.2.2.2.2.2.1,s0_.2.2.2.2.2.2.2.2.2.2.1⟩,s0_.2.2.2.2.2.2.2.2.2.2.2,s0_.2.1⟩:Zj) (⟨0,⟨0,[],[]⟩,⟨0,[],[]⟩,[],[],0,[]⟩:Zi)).bind fun y7=>cond (y7.1 != 0) (some (.inr (.inl (y7.1,y7.2.out,y7.2.r.a,y7.2.r.kind,y7.2.r.segment,y7.2.r.at_,y7.2.r.words,y7.2.r.ptrs,y7.2.r.count,y7.2.r.code,y7.2.r.index,y7.2.gone)))) (some (.inl ((IntKind.i64.wrap (s0_.1+1)),y7.2.out,y7.2.r.a,y7.2.r.kind,y7.2.r.segment,y7.2.r.at_,y7.2.r.words,y7.2.r.ptrs,y7.2.r.count,y7.2.r.code,y7.2.r.index,y7.2.gone)))) (some (.inr (.inr (s0_.2.1,s0_.2.2.1,s0_.2.2.2.1,s0_.2.2.2.2.1,s0_.2.2.2.2.2.1,s0_.2.2.2.2.2.2.1,s0_.2.2.2.2.2.2.2.1,s0_.2.2.2.2.2.2.2.2.1,s0_.2.2.2.2.2.2.2.2.2.1,s0_.2.2.2.2.2.2.2.2.2.2.1,s0_.2.2.2.2.2.2.2.2.2.2.2))))
noncomputable def Qd (Yb:(Zi→Zb→Option (Za×Int))) (Z6:(Zi→Zb→Option (Za×Int))) (Ym:(Zi→Zb→Option (Za×Int))) (Z5:((List Zt)→Zb→Option ((List Za)×Int))) (Z0:(Zj→Ya→Option (Int×Zj))) (Zz:(Zj→Zi→Option (Int×Zj))) (a0:Zj) (a1:Ya):Option (Int×Zj) :=
 cond (a1.Kind == 0) ((cond (decide (a1.N < 0)) (some true) ((Xi a0.r).bind fun y4=>some (cond (decide (a1.N < 0)) true (decide ((IntKind.i64.wrap (y4 - a0.gone)) < a1.N))))).bind fun (z2:Bool)=>cond z2 (some (13,(⟨a0.r,a0.gone,a0.out⟩:Zj))) ((Zv (Q4 Zz a1) (0,a0.out,a0.r.a,a0.r.kind,a0.r.segment,a0.r.at_,a0.r.words,a0.r.ptrs,a0.r.count,a0.r.code,a0.r.index,a0.gone)).bind fun (z10:((Int×(List Za)×(Option Zn)×Int×Int×Int×Int×Int×Int×Int×Int×Int) ⊕ ((List Za)×(Option Zn)×Int×Int×Int×Int×Int×Int×Int×Int×Int)))=>match z10 with | .inl z10=>some (z10.1,(⟨⟨z10.2.2.1,z10.2.2.2.1,z10.2.2.2.2.1,z10.2.2.2.2.2.1,z10.2.2.2.2.2.2.1,z10.2.2.2.2.2.2.2.1,z10.2.2.2.2.2.2.2.2.1,z10.2.2.2.2.2.2.2.2.2.1,z10.2.2.2.2.2.2.2.2.2.2.1⟩,z10.2.2.2.2.2.2.2.2.2.2.2,z10.2.1⟩:Zj)) | .inr z10=>some (0,(⟨⟨z10.2.1,z10.2.2.1,z10.2.2.2.1,z10.2.2.2.2.1,z10.2.2.2.2.2.1,z10.2.2.2.2.2.2.1,z10.2.2.2.2.2.2.2.1,z10.2.2.2.2.2.2.2.2.1,z10.2.2.2.2.2.2.2.2.2.1⟩,z10.2.2.2.2.2.2.2.2.2.2,z10.1⟩:Zj)))) (cond (a1.Kind == 1) ((K1 (⟨a0.r,a0.gone,a0.out⟩:Zj) a1.L).bind fun y13=>some (y13.1,(⟨y13.2.r,y13.2.gone,y13.2.out⟩:Zj))) (cond (a1.Kind == 2) ((Zc9 56 a0.out a1.L).bind fun l15=>some (0,(⟨a0.r,a0.gone,l15⟩:Zj))) (cond (a1.Kind == 3) ((Zz (⟨a0.r,a0.gone,a0.out⟩:Zj) a1.E).bind fun y17=>some (y17.1,(⟨y17.2.r,y17.2.gone,y17.2.out⟩:Zj))) (some (13,(⟨a0.r,a0.gone,a0.out⟩:Zj))))))
noncomputable def Qc (Yb:(Zi→Zb→Option (Za×Int))) (Z6:(Zi→Zb→Option (Za×Int))) (Ym:(Zi→Zb→Option (Za×Int))) (Z5:((List Zt)→Zb→Option ((List Za)×Int))) (Z0:(Zj→Ya→Option (Int×Zj))) (Zz:(Zj→Zi→Option (Int×Zj))) (a0:Zj) (a1:Zi):Option (Int×Zj) :=
 (Kf (⟨a0.r,a0.gone,a0.out⟩:Zj)).bind fun y2=>cond (y2.2.1 != 0) (some (y2.2.1,(⟨y2.2.2.r,y2.2.2.gone,y2.2.2.out⟩:Zj))) ((Yb a1 y2.1).bind fun y4=>(Zc9 56 y2.2.2.out ([(⟨0,[],[]⟩:Za)]:List Za)).bind fun l8=>(Xj l8 (y2.2.2.out.length:Int)).bind fun x9=>some (y4.2,(⟨y2.2.2.r,y2.2.2.gone,(y2.2.2.out++[y4.1])⟩:Zj)))
noncomputable def Ze:Nat→((Zi→Zb→Option (Za×Int))×(Zi→Zb→Option (Za×Int))×(Zi→Zb→Option (Za×Int))×((List Zt)→Zb→Option ((List Za)×Int))×(Zj→Ya→Option (Int×Zj))×(Zj→Zi→Option (Int×Zj)))
 | 0=>((fun _ _=>none),(fun _ _=>none),(fun _ _=>none),(fun _ _=>none),(fun _ _=>none),(fun _ _=>none))
 | k+1=>(Ud ((Ze k).1) ((Ze k).2.1) ((Ze k).2.2.1) ((Ze k).2.2.2.1) ((Ze k).2.2.2.2.1) ((Ze k).2.2.2.2.2),Q8 ((Ze k).1) ((Ze k).2.1) ((Ze k).2.2.1) ((Ze k).2.2.2.1) ((Ze k).2.2.2.2.1) ((Ze k).2.2.2.2.2),Kh ((Ze k).1) ((Ze k).2.1) ((Ze k).2.2.1) ((Ze k).2.2.2.1) ((Ze k).2.2.2.2.1) ((Ze k).2.2.2.2.2),Qr ((Ze k).1) ((Ze k).2.1) ((Ze k).2.2.1) ((Ze k).2.2.2.1) ((Ze k).2.2.2.2.1) ((Ze k).2.2.2.2.2),Qd ((Ze k).1) ((Ze k).2.1) ((Ze k).2.2.1) ((Ze k).2.2.2.1) ((Ze k).2.2.2.2.1) ((Ze k).2.2.2.2.2),Qc ((Ze k).1) ((Ze k).2.1) ((Ze k).2.2.1) ((Ze k).2.2.2.1) ((Ze k).2.2.2.2.1) ((Ze k).2.2.2.2.2))
noncomputable def Zhj (a0:Zi) (a1:Zb):Option (Za×Int):=lim fun k=>(Ze k).1 a0 a1
noncomputable def U3 (a0:(List Int)) (s0_:Int):Option (Int ⊕ Int) :=
 (cond (decide (0 < s0_)) ((Xj a0 (IntKind.i64.wrap (s0_ - 1))).bind fun x4=>some (cond (decide (0 < s0_)) (x4 == 0) false)) (some false)).bind fun (z2:Bool)=>cond z2 (some (.inl (IntKind.i64.wrap (s0_ - 1)))) (some (.inr s0_))
noncomputable def Zbm (a0:(List Int)):Option (List Int) :=
 (Zv (U3 a0) (a0.length:Int)).bind fun (z7:Int)=>(Zfo a0 0 z7).bind fun l9=>some l9
noncomputable def Gy (a0:(List Za)) (s0_:Int):Option (Int ⊕ Int) :=
 (cond (decide (0 < s0_)) ((Xj a0 (IntKind.i64.wrap (s0_ - 1))).bind fun x6=>some (cond (decide (0 < s0_)) (x6.Kind == 0) false)) (some false)).bind fun (z3:Bool)=>cond z3 (some (.inl (IntKind.i64.wrap (s0_ - 1)))) (some (.inr s0_))
noncomputable def Zb8 (a0:(List Za)):Option (List Za) :=
 (Zv (Gy a0) (a0.length:Int)).bind fun (z10:Int)=>(Zfo a0 0 z10).bind fun l12=>some l12
noncomputable def Zbd (Zbu:(Za→Option Za)) (z1:((List Int)×(List Za))) (s0_:(Int×(List Za))):Option ((Int×(List Za)) ⊕ (List Za)) :=
 cond (decide (s0_.1 < (z1.2.length:Int))) ((Xj z1.2 s0_.1).bind fun x9=>(Zbu x9).bind fun y10=>(Xj s0_.2 s0_.1).bind fun x11=>some (.inl ((IntKind.i64.wrap (s0_.1+1)),(Zic s0_.2 s0_.1 y10)))) (some (.inr s0_.2))
noncomputable def Zfu (Zbu:(Za→Option Za)) (a0:Za):Option Za :=
 cond (a0.Kind == 0) (some (⟨0,[],[]⟩:Za)) ((cond (a0.Kind == 1) ((Zbm a0.Words).bind fun y2=>(Zb8 a0.Kids).bind fun y3=>some (y2,y3)) (some (a0.Words,a0.Kids))).bind fun (z1:((List Int)×(List Za)))=>(cond (decide (0 < (z1.2.length:Int))) ((Zlb 56 (z1.2.length:Int) (⟨(0:Int),[],[]⟩:Za)).bind fun l6=>some l6) (some ([]:List Za))).bind fun (z5:(List Za))=>(Zv (Zbd Zbu z1) (0,z5)).bind fun (z14:(List Za))=>some (⟨a0.Kind,z1.1,z14⟩:Za))
noncomputable def Gb:Nat→(Za→Option Za)
 | 0=>(fun _=>none)
 | k+1=>Zfu ((Gb k))
noncomputable def Zl5 (a0:Za):Option Za:=lim fun k=>(Gb k) a0
noncomputable def Gx (a0:Zi) (a1:Zb):Option (Za×Int) :=
 (Zhj a0 a1).bind fun y2=>cond (y2.2 != 0) (some ((⟨0,[],[]⟩:Za),y2.2)) ((Zl5 y2.1).bind fun y4=>some (y4,0))
noncomputable def Kp :Option Bool :=
 (Um ([([4294967296,7]:List Int)]:List (List Int))).bind fun y2=>(Gx (⟨1,⟨0,[],[]⟩,⟨0,[],[]⟩,[],[],0,[]⟩:Zi) y2).bind fun y4=>(Gx (⟨0,⟨0,[],[]⟩,⟨0,[],[]⟩,[],[],0,[]⟩:Zi) y2).bind fun y6=>some (cond (cond (cond (y4.2 == 13) (y6.2 == 0) false) (y6.1.Kind == 1) false) ((y6.1.Words.length:Int) == 1) false)
noncomputable def Uh (a0:(List Int)) (s0_:Int):Option (Int ⊕ Int) :=
 (cond (decide (0 < s0_)) ((Xj a0 (IntKind.i64.wrap (s0_ - 1))).bind fun x4=>some (cond (decide (0 < s0_)) (x4 == 0) false)) (some false)).bind fun (z2:Bool)=>cond z2 (some (.inl (IntKind.i64.wrap (s0_ - 1)))) (some (.inr s0_))
noncomputable def Zar (a0:(List Int)):Option (List Int) :=
 (Zv (Uh a0) (a0.length:Int)).bind fun (z7:Int)=>(Zfo a0 0 z7).bind fun l10=>(Zc9 8 ([]:List Int) l10).bind fun l11=>some l11
noncomputable def Jn (J8:(Za→Option Za)) (a0:Za) (s0_:(Int×Int×(List Za))):Option ((Int×Int×(List Za)) ⊕ (Int×(List Za))) :=
 cond (decide (s0_.2.1 < (a0.Kids.length:Int))) (((Xj a0.Kids s0_.2.1).bind fun x4=>(J8 x4).bind fun y5=>(Zc9 56 s0_.2.2 ([y5]:List Za)).bind fun l7=>cond (y5.Kind != 0) (some ((IntKind.i64.wrap (s0_.2.1+1)),l7)) (some (s0_.1,l7))).bind fun (z1:(Int×(List Za)))=>some (.inl (z1.1,(IntKind.i64.wrap (s0_.2.1+1)),z1.2))) (some (.inr (s0_.1,s0_.2.2)))
noncomputable def Zaj (J8:(Za→Option Za)) (a0:Za):Option Za :=
 cond (a0.Kind == 0) (some (⟨0,[],[]⟩:Za)) ((Zv (Jn J8 a0) (0,0,([]:List Za))).bind fun (z10:(Int×(List Za)))=>cond (a0.Kind == 1) ((Zar a0.Words).bind fun y14=>(Zfo z10.2 0 z10.1).bind fun l15=>some (⟨1,y14,l15⟩:Za)) ((Zc9 8 ([]:List Int) a0.Words).bind fun l17=>some (⟨a0.Kind,l17,z10.2⟩:Za)))
noncomputable def X7:Nat→(Za→Option Za)
 | 0=>(fun _=>none)
 | k+1=>Zaj ((X7 k))
noncomputable def Uo (a0:Za):Option Za:=lim fun k=>(X7 k) a0
noncomputable def Ug (a0:(List Int)) (a1:(List Int)) (s0_:Int):Option (Int ⊕ (Unit ⊕ Unit)) :=
 cond (decide (s0_ < (a0.length:Int))) ((Xj a0 s0_).bind fun x3=>(Xj a1 s0_).bind fun x4=>cond (x3 != x4) (some (.inr (.inl ()))) (some (.inl (IntKind.i64.wrap (s0_+1))))) (some (.inr (.inr ())))
noncomputable def Zap (a0:(List Int)) (a1:(List Int)):Option Bool :=
 cond ((a0.length:Int) != (a1.length:Int)) (some false) ((Zv (Ug a0 a1) 0).bind fun (z7:(Unit ⊕ Unit))=>match z7 with | .inl z7=>some false | .inr z7=>some true)
noncomputable def Ua (J9:(Za→Za→Option Bool)) (a0:Za) (a1:Za) (s0_:Int):Option (Int ⊕ (Unit ⊕ Unit)) :=
 cond (decide (s0_ < (a0.Kids.length:Int))) ((Xj a0.Kids s0_).bind fun x9=>(Xj a1.Kids s0_).bind fun x10=>(J9 x9 x10).bind fun y11=>cond (!y11) (some (.inr (.inl ()))) (some (.inl (IntKind.i64.wrap (s0_+1))))) (some (.inr (.inr ())))
noncomputable def Zak (J9:(Za→Za→Option Bool)) (a0:Za) (a1:Za):Option Bool :=
 (cond (a0.Kind != a1.Kind) (some true) ((Zap a0.Words a1.Words).bind fun y4=>some (cond (cond (a0.Kind != a1.Kind) true (!y4)) true ((a0.Kids.length:Int) != (a1.Kids.length:Int))))).bind fun (z2:Bool)=>cond z2 (some false) ((Zv (Ua J9 a0 a1) 0).bind fun (z14:(Unit ⊕ Unit))=>match z14 with | .inl z14=>some false | .inr z14=>some true)
noncomputable def Ko:Nat→(Za→Za→Option Bool)
 | 0=>(fun _ _=>none)
 | k+1=>Zak ((Ko k))
noncomputable def Zaq (a0:Za) (a1:Za):Option Bool:=lim fun k=>(Ko k) a0 a1
noncomputable def Ks (a0:Za) (a1:Za):Option Bool :=
 (Uo a0).bind fun y4=>(Uo a1).bind fun y5=>(Zaq y4 y5).bind fun y6=>some y6
noncomputable def Zat (a0:Za) (a1:Int):Option Int :=
 cond (decide (a1 < (a0.Words.length:Int))) ((Xj a0.Words a1).bind fun x2=>some x2) (some 0)
noncomputable def Zbk (a0:Za) (a1:Int):Option Za :=
 cond (decide (a1 < (a0.Kids.length:Int))) ((Xj a0.Kids a1).bind fun x2=>some x2) (some (⟨0,[],[]⟩:Za))
noncomputable def Zal (Yw:(Zi→Za→Option (Za×Bool))) (Yx:(Zi→Za→Option (Za×Bool))) (Xm:(Zi→Za→Option (Za×Bool))) (a0:Zi) (a1:Za):Option (Za×Bool) :=
 (cond (a0.Kind == 0) (some (true,a1.Kind,a1.Words,a1.Kids)) (cond (a0.Kind == 1) ((Ks a0.Old a1).bind fun y2=>some (y2,a0.New.Kind,a0.New.Words,a0.New.Kids)) (cond (a0.Kind == 2) ((Yx a0 a1).bind fun y3=>some (y3.2,y3.1.Kind,y3.1.Words,y3.1.Kids)) (cond (a0.Kind == 3) ((Xm a0 a1).bind fun y4=>some (y4.2,y4.1.Kind,y4.1.Words,y4.1.Kids)) (some (false,a1.Kind,a1.Words,a1.Kids)))))).bind fun (z1:(Bool×Int×(List Int)×(List Za)))=>cond (!z1.1) (some ((⟨0,[],[]⟩:Za),false)) ((Uo (⟨z1.2.1,z1.2.2.1,z1.2.2.2⟩:Za)).bind fun y10=>some (y10,true))
noncomputable def Y8 (a0:Zi) (a1:Za) (z1:Int) (s0_:(Int×Int×(List Int))):Option ((Int×Int×(List Int)) ⊕ (Unit ⊕ (List Int))) :=
 cond (decide (s0_.2.1 < z1)) ((Zat a1 s0_.2.1).bind fun y26=>((cond (decide (s0_.1 < (a0.Words.length:Int))) ((Xj a0.Words s0_.1).bind fun x33=>some (cond (decide (s0_.1 < (a0.Words.length:Int))) (x33.At == s0_.2.1) false)) (some false)).bind fun (z30:Bool)=>cond z30 ((Xj a0.Words s0_.1).bind fun x37=>(Jx 0 y26 x37.Mask).bind fun y39=>cond (y39 != x37.Old) (some (.inr ())) ((Jx y26 x37.New x37.Mask).bind fun y41=>some (.inl ((IntKind.i64.wrap (s0_.1+1)),y41)))) (some (.inl (s0_.1,y26)))).bind fun (z27:((Int×Int) ⊕ Unit))=>match z27 with | .inl z27=>(Zc9 8 s0_.2.2 ([z27.2]:List Int)).bind fun l44=>some (.inl (z27.1,(IntKind.i64.wrap (s0_.2.1+1)),l44)) | .inr z27=>some (.inr (.inl ()))) (some (.inr (.inr s0_.2.2)))
noncomputable def Y9 (Yw:(Zi→Za→Option (Za×Bool))) (a0:Zi) (a1:Za) (z13:Int) (s1_:(Int×Int×(List Za))):Option ((Int×Int×(List Za)) ⊕ (Unit ⊕ (List Za))) :=
 cond (decide (s1_.2.1 < z13)) ((Zbk a1 s1_.2.1).bind fun y48=>((cond (decide (s1_.1 < (a0.Kids.length:Int))) ((Xj a0.Kids s1_.1).bind fun x55=>some (cond (decide (s1_.1 < (a0.Kids.length:Int))) (x55.At == s1_.2.1) false)) (some false)).bind fun (z52:Bool)=>cond z52 ((Xj a0.Kids s1_.1).bind fun x61=>(Yw x61.E y48).bind fun y63=>cond (!y63.2) (some (.inr ())) (some (.inl ((IntKind.i64.wrap (s1_.1+1)),y63.1.Kind,y63.1.Words,y63.1.Kids)))) (some (.inl (s1_.1,y48.Kind,y48.Words,y48.Kids)))).bind fun (z49:((Int×Int×(List Int)×(List Za)) ⊕ Unit))=>match z49 with | .inl z49=>(Zc9 56 s1_.2.2 ([(⟨z49.2.1,z49.2.2.1,z49.2.2.2⟩:Za)]:List Za)).bind fun l66=>some (.inl (z49.1,(IntKind.i64.wrap (s1_.2.1+1)),l66)) | .inr z49=>some (.inr (.inl ()))) (some (.inr (.inr s1_.2.2)))
noncomputable def Va (Yw:(Zi→Za→Option (Za×Bool))) (Yx:(Zi→Za→Option (Za×Bool))) (Xm:(Zi→Za→Option (Za×Bool))) (a0:Zi) (a1:Za):Option (Za×Bool) :=
 cond (a1.Kind != 1) (some ((⟨0,[],[]⟩:Za),false)) (((cond (decide (0 < (a0.Words.length:Int))) ((Xj a0.Words (IntKind.i64.wrap ((a0.Words.length:Int) - 1))).bind fun x7=>some (cond (decide (0 < (a0.Words.length:Int))) (decide ((a1.Words.length:Int)≤x7.At)) false)) (some false)).bind fun (z4:Bool)=>cond z4 ((Xj a0.Words (IntKind.i64.wrap ((a0.Words.length:Int) - 1))).bind fun x10=>some (IntKind.i64.wrap (x10.At+1))) (some (a1.Words.length:Int))).bind fun (z1:Int)=>((cond (decide (0 < (a0.Kids.length:Int))) ((Xj a0.Kids (IntKind.i64.wrap ((a0.Kids.length:Int) - 1))).bind fun x19=>some (cond (decide (0 < (a0.Kids.length:Int))) (decide ((a1.Kids.length:Int)≤x19.At)) false)) (some false)).bind fun (z16:Bool)=>cond z16 ((Xj a0.Kids (IntKind.i64.wrap ((a0.Kids.length:Int) - 1))).bind fun x22=>some (IntKind.i64.wrap (x22.At+1))) (some (a1.Kids.length:Int))).bind fun (z13:Int)=>(Zv (Y8 a0 a1 z1) (0,0,([]:List Int))).bind fun (z46:(Unit ⊕ (List Int)))=>match z46 with | .inl z46=>some ((⟨0,[],[]⟩:Za),false) | .inr z46=>(Zv (Y9 Yw a0 a1 z13) (0,0,([]:List Za))).bind fun (z68:(Unit ⊕ (List Za)))=>match z68 with | .inl z68=>some ((⟨0,[],[]⟩:Za),false) | .inr z68=>some ((⟨1,z46,z68⟩:Za),true))
noncomputable def X4 (a1:Za) (x3:Ya) (s1_:(Int×Int×(List Za))):Option ((Int×Int×(List Za)) ⊕ (Unit ⊕ (Int×(List Za)))) :=
 cond (cond (decide (s1_.2.1 < x3.N)) (x3.Kind == 0) false) (cond (decide ((a1.Kids.length:Int)≤s1_.1)) (some (.inr (.inl ()))) ((Xj a1.Kids s1_.1).bind fun x6=>(Zc9 56 s1_.2.2 ([x6]:List Za)).bind fun l7=>some (.inl ((IntKind.i64.wrap (s1_.1+1)),(IntKind.i64.wrap (s1_.2.1+1)),l7)))) (some (.inr (.inr (s1_.1,s1_.2.2))))
noncomputable def Xa (a1:Za) (x3:Ya) (s2_:(Int×Int×(List Za))):Option ((Int×Int×(List Za)) ⊕ (Unit ⊕ (Int×(List Za)))) :=
 cond (decide (s2_.2.1 < (x3.L.length:Int))) ((cond (x3.Kind == 2) ((Xj x3.L s2_.2.1).bind fun x14=>(Zc9 56 s2_.2.2 ([x14]:List Za)).bind fun l15=>some (.inl (s2_.1,l15))) ((cond (decide ((a1.Kids.length:Int)≤s2_.1)) (some true) ((Xj a1.Kids s2_.1).bind fun x23=>(Xj x3.L s2_.2.1).bind fun x24=>(Ks x23 x24).bind fun y25=>some (cond (decide ((a1.Kids.length:Int)≤s2_.1)) true (!y25)))).bind fun (z19:Bool)=>cond z19 (some (.inr ())) (some (.inl ((IntKind.i64.wrap (s2_.1+1)),s2_.2.2))))).bind fun (z11:((Int×(List Za)) ⊕ Unit))=>match z11 with | .inl z11=>some (.inl (z11.1,(IntKind.i64.wrap (s2_.2.1+1)),z11.2)) | .inr z11=>some (.inr (.inl ()))) (some (.inr (.inr (s2_.1,s2_.2.2))))
noncomputable def Yt (Yw:(Zi→Za→Option (Za×Bool))) (a0:Zi) (a1:Za) (s0_:(Int×Int×(List Za))):Option ((Int×Int×(List Za)) ⊕ (Unit ⊕ (Int×(List Za)))) :=
 cond (decide (s0_.2.1 < (a0.Ops.length:Int))) (((Xj a0.Ops s0_.2.1).bind fun x3=>(Zv (X4 a1 x3) (s0_.1,0,s0_.2.2)).bind fun (z10:(Unit ⊕ (Int×(List Za))))=>match z10 with | .inl z10=>some (.inr ()) | .inr z10=>(Zv (Xa a1 x3) (z10.1,0,z10.2)).bind fun (z30:(Unit ⊕ (Int×(List Za))))=>match z30 with | .inl z30=>some (.inr ()) | .inr z30=>cond (x3.Kind == 3) (cond (decide ((a1.Kids.length:Int)≤z30.1)) (some (.inr ())) ((Xj a1.Kids z30.1).bind fun x33=>(Yw x3.E x33).bind fun y34=>cond (!y34.2) (some (.inr ())) ((Zc9 56 z30.2 ([y34.1]:List Za)).bind fun l36=>some (.inl ((IntKind.i64.wrap (z30.1+1)),l36))))) (some (.inl (z30.1,z30.2)))).bind fun (z1:((Int×(List Za)) ⊕ Unit))=>match z1 with | .inl z1=>some (.inl (z1.1,(IntKind.i64.wrap (s0_.2.1+1)),z1.2)) | .inr z1=>some (.inr (.inl ()))) (some (.inr (.inr (s0_.1,s0_.2.2))))
noncomputable def Zam (Yw:(Zi→Za→Option (Za×Bool))) (Yx:(Zi→Za→Option (Za×Bool))) (Xm:(Zi→Za→Option (Za×Bool))) (a0:Zi) (a1:Za):Option (Za×Bool) :=
 cond (a1.Kind != a0.List_) (some ((⟨0,[],[]⟩:Za),false)) ((Zv (Yt Yw a0 a1) (0,0,([]:List Za))).bind fun (z41:(Unit ⊕ (Int×(List Za))))=>match z41 with | .inl z41=>some ((⟨0,[],[]⟩:Za),false) | .inr z41=>some ((⟨a1.Kind,[],z41.2⟩:Za),(z41.1 == (a1.Kids.length:Int))))
noncomputable def Yc:Nat→((Zi→Za→Option (Za×Bool))×(Zi→Za→Option (Za×Bool))×(Zi→Za→Option (Za×Bool)))
 | 0=>((fun _ _=>none),(fun _ _=>none),(fun _ _=>none))
 | k+1=>(Zal ((Yc k).1) ((Yc k).2.1) ((Yc k).2.2),Va ((Yc k).1) ((Yc k).2.1) ((Yc k).2.2),Zam ((Yc k).1) ((Yc k).2.1) ((Yc k).2.2))
noncomputable def Zer (a0:Zi) (a1:Za):Option (Za×Bool):=lim fun k=>(Yc k).1 a0 a1
noncomputable def Kl (a0:Zi) (a1:(List (List Int))) (a2:Yi):Option Bool :=
 (Gs a2).bind fun y2=>(Vn a1 y2).bind fun y4=>(cond (y4.2.2 != 0) (some true) ((Zas a0).bind fun y8=>some (cond (y4.2.2 != 0) true (!y8)))).bind fun (z6:Bool)=>cond z6 ((Kp).bind fun y11=>some y11) ((Um a1).bind fun y14=>(Gx a0 y14).bind fun y15=>(Zer a0 y4.1).bind fun y17=>(cond y17.2 (cond (y15.2 == 0) ((Zaq y15.1 y17.1).bind fun y27=>cond y27 ((Kp).bind fun y28=>some (cond (cond (cond (cond y17.2 (y15.2 == 0) false) true (cond (!y17.2) (y15.2 == 13) false)) y27 false) y28 false)) (some false)) (some false)) (cond (y15.2 == 13) ((Zaq y15.1 y17.1).bind fun y29=>cond y29 ((Kp).bind fun y30=>some (cond (cond (cond (cond y17.2 (y15.2 == 0) false) true (cond (!y17.2) (y15.2 == 13) false)) y29 false) y30 false)) (some false)) (some false))).bind fun (z22:Bool)=>some z22)
def Uf (x:Yi):List G:=[.val (.int .i64 x.Depth),.val (.int .i64 x.Weight),.val (.int .i64 x.MaxD),.val (.int .i64 x.MaxOut)]
theorem Zm3:∀ x,G.pures ((eI .u64) x)=true:=fun x=>by simp [eI,eB,eS,eL,eP,G.pures,G.pure]
theorem Zk9 {O O':Objs} {n:Nat} (xs:List Int):wkl O O' n (fl (eI .u64) xs) (fl (eI .u64) xs):=Zh9 (Js Zm3 xs)
theorem Zoq {O O':Objs} {n:Nat} (xs:List Int) (b b':List G):wkl O O' n (fl (eI .u64) xs++b) (fl (eI .u64) xs++b')=wkl O O' n b b':=Zx0 b b' _ (Js Zm3 xs)
theorem Zoa (xs:List Int):(fl (eI .u64) xs).length=xs.length * 1:=Zac (f:=(eI .u64)) (k:=1) (fun _=>rfl) xs
theorem Zom (xs:List Int):(fl (eI .u64) xs).all G.one=true:=Zg9 (fun x=>by simp [eI,eB,eS,eL,eP,G.one,Value.oneCell']) xs
theorem Zit {ρ:Nat→Nat} (xs:List Int):G.rens ρ (fl (eI .u64) xs)=fl (eI .u64) xs:=Zaf ρ _ (Js Zm3 xs)
theorem Zp7:∀ x,G.pures ((eL (eI .u64)) x)=true:=fun x=>by simp [eI,eB,eS,eL,eP,G.pures,G.pure,Js]
theorem Zjb {O O':Objs} {n:Nat} (xs:List (List Int)):wkl O O' n (fl (eL (eI .u64)) xs) (fl (eL (eI .u64)) xs):=Zh9 (Js Zp7 xs)
theorem Zxn {ρ:Nat→Nat} (xs:List (List Int)):G.rens ρ (fl (eL (eI .u64)) xs)=fl (eL (eI .u64)) xs:=Zaf ρ _ (Js Zp7 xs)
mutual
def Za1:Za→List G
 | ⟨f0,f1,f2⟩=>[.val (.int .i64 f0),.sl f1.length (fl (eI .u64) f1),.sl f2.length (Za2 f2)]
def Za2:List Za→List G
 | []=>[]
 | x::xs=>Za1 x++Za2 xs
end
theorem Zje:∀ xs,Za2 xs=fl Za1 xs
 | []=>by simp [Za2,fl]
 | x::xs=>by rw [Za2,G5,Zje xs]
def Zc (x:Za):List G:=[.val (.int .i64 x.Kind),.sl x.Words.length (fl (eI .u64) x.Words),.sl x.Kids.length (fl Za1 x.Kids)]
theorem Ql:Za1=Zc:=by
 funext x
 obtain ⟨_,_,_⟩:=x
 simp only [Za1,Zje,Zc,List.cons_append,List.nil_append]
mutual
theorem Zmj:∀ x,G.pures (Za1 x)=true
 | ⟨f0,f1,f2⟩=>by simp [Za1,eP,eI,eB,eS,eL,G.pures,G.pure,Zcd,Js,Zlc f2]
theorem Zlc:∀ xs,G.pures (Za2 xs)=true
 | []=>rfl
 | x::xs=>by simp [Za2,Zcd,Zmj x,Zlc xs]
end
theorem Zae:∀ x,G.pures (Zc x)=true:=fun x=>by rw [← Ql];exact Zmj x
theorem Zdj {O O':Objs} {n:Nat} (xs:List Za):wkl O O' n (fl Zc xs) (fl Zc xs):=Zh9 (Js Zae xs)
theorem Zdi {O O':Objs} {n:Nat} (xs:List Za) (b b':List G):wkl O O' n (fl Zc xs++b) (fl Zc xs++b')=wkl O O' n b b':=Zx0 b b' _ (Js Zae xs)
theorem Zsp (xs:List Za):(fl Zc xs).length=xs.length * 3:=Zac (f:=Zc) (k:=3) (fun _=>rfl) xs
theorem Zsy (xs:List Za):(fl Zc xs).all G.one=true:=Zg9 (fun x=>by simp [eI,eB,eS,eL,eP,G.one,Value.oneCell',Zc]) xs
theorem Zez {ρ:Nat→Nat} (xs:List Za):G.rens ρ (fl Zc xs)=fl Zc xs:=Zaf ρ _ (Js Zae xs)
def Zu (x:Zy):List G:=[.val (.int .i64 x.At),.val (.int .u8 x.Mask),.val (.int .u64 x.Old),.val (.int .u64 x.New)]
mutual
def V7:Zi→List G
 | ⟨f0,f1,f2,f3,f4,f5,f6⟩=>[.val (.int .i64 f0),.val (.int .i64 f1.Kind),.sl f1.Words.length (fl (eI .u64) f1.Words),.sl f1.Kids.length (fl Zc f1.Kids),.val (.int .i64 f2.Kind),.sl f2.Words.length (fl (eI .u64) f2.Words),.sl f2.Kids.length (fl Zc f2.Kids),.sl f3.length (fl Zu f3),.sl f4.length (Vy f4),.val (.int .i64 f5),.sl f6.length (Zco f6)]
def Ziy:List Zi→List G
 | []=>[]
 | x::xs=>V7 x++Ziy xs
def Qk:Zt→List G
 | ⟨f0,f1⟩=>[.val (.int .i64 f0)]++V7 f1
def Vy:List Zt→List G
 | []=>[]
 | x::xs=>Qk x++Vy xs
def Ue:Ya→List G
 | ⟨f0,f1,f2,f3⟩=>[.val (.int .i64 f0),.val (.int .i64 f1),.sl f2.length (fl Zc f2)]++V7 f3
def Zco:List Ya→List G
 | []=>[]
 | x::xs=>Ue x++Zco xs
end
theorem Za8:∀ xs,Vy xs=fl Qk xs
 | []=>by simp [Vy,fl]
 | x::xs=>by rw [Vy,G5,Za8 xs]
theorem Zeh:∀ xs,Zco xs=fl Ue xs
 | []=>by simp [Zco,fl]
 | x::xs=>by rw [Zco,G5,Zeh xs]
def Qv (x:Zi):List G:=[.val (.int .i64 x.Kind),.val (.int .i64 x.Old.Kind),.sl x.Old.Words.length (fl (eI .u64) x.Old.Words),.sl x.Old.Kids.length (fl Zc x.Old.Kids),.val (.int .i64 x.New.Kind),.sl x.New.Words.length (fl (eI .u64) x.New.Words),.sl x.New.Kids.length (fl Zc x.New.Kids),.sl x.Words.length (fl Zu x.Words),.sl x.Kids.length (fl Qk x.Kids),.val (.int .i64 x.List_),.sl x.Ops.length (fl Ue x.Ops)]
def Zr (x:Zt):List G:=[.val (.int .i64 x.At),.val (.int .i64 x.E.Kind),.val (.int .i64 x.E.Old.Kind),.sl x.E.Old.Words.length (fl (eI .u64) x.E.Old.Words),.sl x.E.Old.Kids.length (fl Zc x.E.Old.Kids),.val (.int .i64 x.E.New.Kind),.sl x.E.New.Words.length (fl (eI .u64) x.E.New.Words),.sl x.E.New.Kids.length (fl Zc x.E.New.Kids),.sl x.E.Words.length (fl Zu x.E.Words),.sl x.E.Kids.length (fl Qk x.E.Kids),.val (.int .i64 x.E.List_),.sl x.E.Ops.length (fl Ue x.E.Ops)]
def Yg (x:Ya):List G:=[.val (.int .i64 x.Kind),.val (.int .i64 x.N),.sl x.L.length (fl Zc x.L),.val (.int .i64 x.E.Kind),.val (.int .i64 x.E.Old.Kind),.sl x.E.Old.Words.length (fl (eI .u64) x.E.Old.Words),.sl x.E.Old.Kids.length (fl Zc x.E.Old.Kids),.val (.int .i64 x.E.New.Kind),.sl x.E.New.Words.length (fl (eI .u64) x.E.New.Words),.sl x.E.New.Kids.length (fl Zc x.E.New.Kids),.sl x.E.Words.length (fl Zu x.E.Words),.sl x.E.Kids.length (fl Qk x.E.Kids),.val (.int .i64 x.E.List_),.sl x.E.Ops.length (fl Ue x.E.Ops)]
theorem Zda:V7=Qv:=by
 funext x
 obtain ⟨_,_,_,_,_,_,_⟩:=x
 simp only [V7,Qk,Za8,Ue,Zeh,Qv,List.cons_append,List.nil_append]
theorem Qf:Qk=Zr:=by
 funext x
 obtain ⟨_,⟨_,_,_,_,_,_,_⟩⟩:=x
 simp only [V7,Qk,Za8,Ue,Zeh,Zr,List.cons_append,List.nil_append]
theorem Vb:Ue=Yg:=by
 funext x
 obtain ⟨_,_,_,⟨_,_,_,_,_,_,_⟩⟩:=x
 simp only [V7,Qk,Za8,Ue,Zeh,Yg,List.cons_append,List.nil_append]
mutual
theorem Zhw:∀ x,G.pures (V7 x)=true
 | ⟨f0,f1,f2,f3,f4,f5,f6⟩=>by simp [V7,eP,eI,eB,eS,eL,G.pures,G.pure,Zcd,Js,Zhz f4,Zn0 f6,Zae,Zu]
theorem Zt4:∀ xs,G.pures (Ziy xs)=true
 | []=>rfl
 | x::xs=>by simp [Ziy,Zcd,Zhw x,Zt4 xs]
theorem Zis:∀ x,G.pures (Qk x)=true
 | ⟨f0,f1⟩=>by simp [Qk,eP,eI,eB,eS,eL,G.pures,G.pure,Zcd,Js,Zhw f1,Zae,Zu]
theorem Zhz:∀ xs,G.pures (Vy xs)=true
 | []=>rfl
 | x::xs=>by simp [Vy,Zcd,Zis x,Zhz xs]
theorem Zp6:∀ x,G.pures (Ue x)=true
 | ⟨f0,f1,f2,f3⟩=>by simp [Ue,eP,eI,eB,eS,eL,G.pures,G.pure,Zcd,Js,Zhw f3,Zae,Zu]
theorem Zn0:∀ xs,G.pures (Zco xs)=true
 | []=>rfl
 | x::xs=>by simp [Zco,Zcd,Zp6 x,Zn0 xs]
end
theorem Zgt:∀ x,G.pures (Zu x)=true:=fun x=>by simp [eI,eB,eS,eL,eP,G.pures,G.pure,Zu]
theorem Zaz {O O':Objs} {n:Nat} (xs:List Zy):wkl O O' n (fl Zu xs) (fl Zu xs):=Zh9 (Js Zgt xs)
theorem Zfd {ρ:Nat→Nat} (xs:List Zy):G.rens ρ (fl Zu xs)=fl Zu xs:=Zaf ρ _ (Js Zgt xs)
theorem Zhx:∀ x,G.pures (Zr x)=true:=fun x=>by rw [← Qf];exact Zis x
theorem Zbc {O O':Objs} {n:Nat} (xs:List Zt):wkl O O' n (fl Zr xs) (fl Zr xs):=Zh9 (Js Zhx xs)
theorem Zgb {ρ:Nat→Nat} (xs:List Zt):G.rens ρ (fl Zr xs)=fl Zr xs:=Zaf ρ _ (Js Zhx xs)
theorem Znz:∀ x,G.pures (Yg x)=true:=fun x=>by rw [← Vb];exact Zp6 x
theorem Ze5 {O O':Objs} {n:Nat} (xs:List Ya):wkl O O' n (fl Yg xs) (fl Yg xs):=Zh9 (Js Znz xs)
theorem Zld {ρ:Nat→Nat} (xs:List Ya):G.rens ρ (fl Yg xs)=fl Yg xs:=Zaf ρ _ (Js Znz xs)
theorem Yd1:∀ x,G.pures ((eI .u8) x)=true:=fun x=>by simp [eI,eB,eS,eL,eP,G.pures,G.pure]
theorem Ybq {O O':Objs} {n:Nat} (xs:List Int):wkl O O' n (fl (eI .u8) xs) (fl (eI .u8) xs):=Zh9 (Js Yd1 xs)
theorem Yaz (xs:List Int):(fl (eI .u8) xs).length=xs.length * 1:=Zac (f:=(eI .u8)) (k:=1) (fun _=>rfl) xs
theorem Ya7 (xs:List Int):(fl (eI .u8) xs).all G.one=true:=Zg9 (fun x=>by simp [eI,eB,eS,eL,eP,G.one,Value.oneCell']) xs
def Zh (x:Zn):List G:=[.sl x.segments.length (fl (eL (eI .u64)) x.segments),.val (.int .i64 x.size),.val (.int .i64 x.left)]
theorem Zhy:∀ x,G.pures (Zh x)=true:=fun x=>by simp [eI,eB,eS,eL,eP,G.pures,G.pure,Js,Zh]
theorem Zdo {O O':Objs} {n:Nat} (x:Option Zn):wk O O' n (gP Zh x) (gP Zh x)=True:=You Zhy x
theorem Zga {ρ:Nat→Nat} (x:Option Zn):(gP Zh x).ren ρ=gP Zh x:=Zxm ρ _ (Z8p Zhy x)
theorem Z6s (xs:List Int):(fl (eI .i64) xs).length=xs.length * 1:=Zac (f:=(eI .i64)) (k:=1) (fun _=>rfl) xs
theorem Z61 (xs:List Int):(fl (eI .i64) xs).all G.one=true:=Zg9 (fun x=>by simp [eI,eB,eS,eL,eP,G.one,Value.oneCell']) xs
def Xn (x:Ya):List G:=[.val (.int .i64 x.Kind),.val (.int .i64 x.N),.sl x.L.length (fl Zc x.L),.val (.int .i64 x.E.Kind),.val (.int .i64 x.E.Old.Kind),.sl x.E.Old.Words.length (fl (eI .u64) x.E.Old.Words),.sl x.E.Old.Kids.length (fl Zc x.E.Old.Kids),.val (.int .i64 x.E.New.Kind),.sl x.E.New.Words.length (fl (eI .u64) x.E.New.Words),.sl x.E.New.Kids.length (fl Zc x.E.New.Kids),.sl x.E.Words.length (fl Zu x.E.Words),.sl x.E.Kids.length (fl Zr x.E.Kids),.val (.int .i64 x.E.List_),.sl x.E.Ops.length (fl Yg x.E.Ops)]
def Q2 (x:Zt):List G:=[.val (.int .i64 x.At),.val (.int .i64 x.E.Kind),.val (.int .i64 x.E.Old.Kind),.sl x.E.Old.Words.length (fl (eI .u64) x.E.Old.Words),.sl x.E.Old.Kids.length (fl Zc x.E.Old.Kids),.val (.int .i64 x.E.New.Kind),.sl x.E.New.Words.length (fl (eI .u64) x.E.New.Words),.sl x.E.New.Kids.length (fl Zc x.E.New.Kids),.sl x.E.Words.length (fl Zu x.E.Words),.sl x.E.Kids.length (fl Zr x.E.Kids),.val (.int .i64 x.E.List_),.sl x.E.Ops.length (fl Yg x.E.Ops)]
def Zm (x:Zi):List G:=[.val (.int .i64 x.Kind),.val (.int .i64 x.Old.Kind),.sl x.Old.Words.length (fl (eI .u64) x.Old.Words),.sl x.Old.Kids.length (fl Zc x.Old.Kids),.val (.int .i64 x.New.Kind),.sl x.New.Words.length (fl (eI .u64) x.New.Words),.sl x.New.Kids.length (fl Zc x.New.Kids),.sl x.Words.length (fl Zu x.Words),.sl x.Kids.length (fl Zr x.Kids),.val (.int .i64 x.List_),.sl x.Ops.length (fl Yg x.Ops)]
def Zk (x:Zb):List G:=[(gP Zh x.a),.val (.int .i64 x.kind),.val (.int .i64 x.segment),.val (.int .i64 x.at_),.val (.int .i64 x.words),.val (.int .i64 x.ptrs),.val (.int .i64 x.count),.val (.int .i64 x.code),.val (.int .i64 x.index)]
def Xh (x:Yp):List G:=[.val (.int .i64 x.Kind),.val (.int .i64 x.Off),.val (.int .i64 x.Data),.val (.int .i64 x.Ptrs),.val (.int .i64 x.Code),.val (.int .i64 x.Count),.val (.int .i64 x.Segment),.val (.bool x.Double)]
def Z3 (x:Zw):List G:=[.val (.int .i64 x.Kind),.val (.int .i64 x.S),.val (.int .i64 x.At),.val (.int .i64 x.Data),.val (.int .i64 x.Ptrs),.val (.int .i64 x.Count),.val (.int .u64 x.N)]
def Zg (x:Za):List G:=[.val (.int .i64 x.Kind),.sl x.Words.length (fl (eI .u64) x.Words),.sl x.Kids.length (fl Zc x.Kids)]
def X5 (x:Yi):List G:=[.val (.int .i64 x.Depth),.val (.int .i64 x.Weight),.val (.int .i64 x.MaxD),.val (.int .i64 x.MaxOut)]
def Jv (x:Zy):List G:=[.val (.int .i64 x.At),.val (.int .u8 x.Mask),.val (.int .u64 x.Old),.val (.int .u64 x.New)]
abbrev vI (x:Int):G := .val (.int .i64 x)
abbrev vB (x:Bool):G := .val (.bool x)
abbrev nV:G := .val (.slice none 0 0)
abbrev sL {α:Type} (e:α→List G) (x:List α):G := .sl x.length (fl e x)
abbrev oR {α:Type} (t s:Nat) (e:α→List G) (x:List α):GObj:=⟨true,t,s,x.length,fl e x⟩
structure Hid (p:Prop):Prop where
 get:p
structure Ar {α:Type} (a:α):Prop where
def Ar.v {α:Type} {a:α} (_:Ar a):α:=a
theorem zQ {A B:Prop} (l0:List Nat) (b:B) (e:Ar l0→Hid B→A:=by intro x0 bZ;refine Zef x0.v (Yr Zs [] ?_);simp only [push_cast,seval,↓reduceIte,Zd,Ar.v,hN0,hN];exact bZ.get):A:=e ⟨⟩ ⟨b⟩
theorem zR {A B:Prop} (b:B) (e:Hid B→A:=by intro bZ;refine Yr Zs [] ?_;simp only [push_cast,seval,↓reduceIte,Zd,hN0,hN];exact bZ.get):A:=e ⟨b⟩
theorem Vh {A:Prop} {P0:Prop} (p0:P0) (e:P0→A:=by intro x0;have h9:=Option.some.inj x0;subst h9;refine And.intro rfl (Fit2.of (Y0 hU rfl rfl ?_) (by omega));simp only [push_cast,seval,↓reduceIte,Zd,hN0,hN]):A:=e p0
theorem zK {A B:Prop} (b:B) (e:Hid B→A:=by intro bZ;refine Ybx ?_;(try simp only [Yv,Z9]);exact bZ.get):A:=e ⟨b⟩
theorem Gi {A B:Prop} (l0:List Nat) (l1:List Bool) (b:B) (e:Ar l0→Ar l1→Hid B→A:=by intro x0 x1 bZ;refine Yr Zs [] ?_;simp only [push_cast,seval,↓reduceIte,Zd,hN0,hN];refine Zsd x0.v x1.v ?_;simp only [push_cast,seval,↓reduceIte,Ar.v];exact bZ.get):A:=e ⟨⟩ ⟨⟩ ⟨b⟩
theorem zW {A B:Prop} (b:B) (e:Hid B→A:=by intro bZ;refine Ykk ?_;(try simp only [Yv,Z9]);exact bZ.get):A:=e ⟨b⟩
theorem Xs {A B:Prop} (l0:List Nat) (l1:List Bool) (b:B) (e:Ar l0→Ar l1→Hid B→A:=by intro x0 x1 bZ;refine Ybx ?_;(try simp only [Yv,Z9]);refine Zsd x0.v x1.v ?_;simp only [push_cast,seval,↓reduceIte,Ar.v];exact bZ.get):A:=e ⟨⟩ ⟨⟩ ⟨b⟩
theorem zS {A B:Prop} (b:B) (e:Hid B→A:=by intro bZ;simp only [push_cast,seval,↓reduceIte,Zd,hN0,hN];exact bZ.get):A:=e ⟨b⟩
theorem zD {A B:Prop} (l0:List Nat) (l1:List Bool) (b:B) (e:Ar l0→Ar l1→Hid B→A:=by intro x0 x1 bZ;refine Zsd x0.v x1.v ?_;simp only [push_cast,seval,↓reduceIte,Ar.v];exact bZ.get):A:=e ⟨⟩ ⟨⟩ ⟨b⟩
theorem Ye7 {A B:Prop} (l0:List (Option Bool)) {P1:Prop} (p1:P1) {P2:Prop} (p2:P2) {P3:Prop} (p3:P3) {P4:Prop} (p4:P4) {P5:Prop} (p5:P5) {P6:Prop} (p6:P6) (b:B) (e:Ar l0→P1→P2→P3→P4→P5→P6→Hid B→A:=by intro x0 x1 x2 x3 x4 x5 x6 bZ;refine Yr Zs x0.v ?_;simp only [push_cast,Nat.reduceAdd,Nat.reduceSub,Nat.reduceMul,Nat.reduceLeDiff,Nat.reduceLT,Nat.reduceEqDiff,↓reduceIte,reduceCtorEq,Int.reduceBEq,Int.reduceBNe,Nat.reduceBEq,Int.reduceLE,Int.reduceLT,Int.reduceEq,Int.reduceNe,Int.reduceNeg,Nat.reduceDiv,Nat.reduceMod,Nat.reducePow,Zd,Ar.v,x1,x2,x3,x4,x5,x6,hN0,hN];exact bZ.get):A:=e ⟨⟩ p1 p2 p3 p4 p5 p6 ⟨b⟩
theorem zG {A B:Prop} (b:B) (e:Hid B→A:=by intro bZ;(repeat (with_reducible refine And.intro (by first | (intro h0;simp only [h0,and_self];done) | (intro h0;simp only [h0,Bool.not_false,Bool.not_true,Bool.true_and,Bool.and_true,true_and,and_true,and_self,imp_self,implies_true,bne_iff_ne,ne_eq,beq_iff_eq];done) | (intros;simp_all;done) | exact True.intro) ?_));exact bZ.get):A:=e ⟨b⟩
theorem Yi5 {A:Prop} {P0:Prop} (p0:P0) {P1:Prop} (p1:P1) {P2:Prop} (p2:P2) {P3:Prop} (p3:P3) {P4:Prop} (p4:P4) {P5:Prop} (p5:P5) {P6:Prop} (p6:P6) (e:P0→P1→P2→P3→P4→P5→P6→A:=by intro x0 x1 x2 x3 x4 x5 x6;have h9:=Option.some.inj x0;subst h9;refine And.intro rfl (Fit2.of (Y0 hU rfl rfl ?_) (by omega));simp only [push_cast,Nat.reduceAdd,Nat.reduceSub,Nat.reduceMul,Nat.reduceLeDiff,Nat.reduceLT,Nat.reduceEqDiff,↓reduceIte,reduceCtorEq,Int.reduceBEq,Int.reduceBNe,Nat.reduceBEq,Int.reduceLE,Int.reduceLT,Int.reduceEq,Int.reduceNe,Int.reduceNeg,Nat.reduceDiv,Nat.reduceMod,Nat.reducePow,Zd,x1,x2,x3,x4,x5,x6,hN0,hN]):A:=e p0 p1 p2 p3 p4 p5 p6
theorem Za0 {A B:Prop} (l0:List (Option Bool)) {P1:Prop} (p1:P1) {P2:Prop} (p2:P2) {P3:Prop} (p3:P3) (b:B) (e:Ar l0→P1→P2→P3→Hid B→A:=by intro x0 x1 x2 x3 bZ;refine Yr Zs x0.v ?_;simp only [push_cast,seval,↓reduceIte,Zd,Ar.v,x1,x2,x3,hN0,hN];exact bZ.get):A:=e ⟨⟩ p1 p2 p3 ⟨b⟩
theorem Ze6 {A:Prop} {P0:Prop} (p0:P0) {P1:Prop} (p1:P1) {P2:Prop} (p2:P2) {P3:Prop} (p3:P3) (e:P0→P1→P2→P3→A:=by intro x0 x1 x2 x3;have h9:=Option.some.inj x0;subst h9;refine And.intro rfl (Fit2.of (Y0 hU rfl rfl ?_) (by omega));simp only [push_cast,seval,↓reduceIte,Zd,x1,x2,x3,hN0,hN]):A:=e p0 p1 p2 p3
theorem Vq {A B:Prop} (l0:List (Option Bool)) {P1:Prop} (p1:P1) {P2:Prop} (p2:P2) (b:B) (e:Ar l0→P1→P2→Hid B→A:=by intro x0 x1 x2 bZ;refine Yr Zs x0.v ?_;simp only [push_cast,seval,↓reduceIte,Zd,Ar.v,x1,x2,hN0,hN];exact bZ.get):A:=e ⟨⟩ p1 p2 ⟨b⟩
theorem Zgf {A:Prop} {P0:Prop} (p0:P0) {P1:Prop} (p1:P1) {P2:Prop} (p2:P2) (e:P0→P1→P2→A:=by intro x0 x1 x2;have h9:=Option.some.inj x0;subst h9;refine And.intro rfl (Fit2.of (Y0 hU rfl rfl ?_) (by omega));simp only [push_cast,seval,↓reduceIte,Zd,x1,x2,hN0,hN]):A:=e p0 p1 p2
theorem Vi {A B:Prop} (l0:List (Option Bool)) {P1:Prop} (p1:P1) (b:B) (e:Ar l0→P1→Hid B→A:=by intro x0 x1 bZ;refine Yr Zs x0.v ?_;simp only [push_cast,seval,↓reduceIte,Zd,Ar.v,x1,hN0,hN];exact bZ.get):A:=e ⟨⟩ p1 ⟨b⟩
theorem Ju {A:Prop} {P0:Prop} (p0:P0) {P1:Prop} (p1:P1) (e:P0→P1→A:=by intro x0 x1;have h9:=Option.some.inj x0;subst h9;refine And.intro rfl (Fit2.of (Y0 hU rfl rfl ?_) (by omega));simp only [push_cast,seval,↓reduceIte,Zd,x1,hN0,hN]):A:=e p0 p1
theorem zQd {A B:Prop} (l0:List Nat) (l1:List Nat) (l2:List Bool) (b:B) (e:Ar l0→Ar l1→Ar l2→Hid B→A:=by intro x0 x1 x2 bZ;refine Zef x0.v (Yr Zs [] ?_);simp only [push_cast,seval,↓reduceIte,Zd,Ar.v,hN0,hN];refine Zsd x1.v x2.v ?_;simp only [push_cast,seval,↓reduceIte,Ar.v];exact bZ.get):A:=e ⟨⟩ ⟨⟩ ⟨⟩ ⟨b⟩
theorem zEx {A:Prop} {P0:Prop} (p0:P0) (e:P0→A:=by intro x0;refine Ybw ?_;(try simp only [Yv,Z9,↓reduceIte,Nat.reduceEqDiff]);have h9:=Option.some.inj x0;subst h9;refine And.intro (fun h=>by cases h) (And.intro rfl (Fit2.of (Y0 hU rfl rfl ?_) (by omega)));simp only [push_cast,seval,↓reduceIte,Zd,hN0,hN]):A:=e p0
theorem zCd {A B:Prop} {P0:Prop} (p0:P0) (l1:List Nat) (l2:List Bool) (b:B) (e:P0→Ar l1→Ar l2→Hid B→A:=by intro x0 x1 x2 bZ;refine Yr Zs [] ?_;simp only [push_cast,seval,↓reduceIte,Zd,hN0,hN];refine x0.then ?_;simp only [push_cast,seval,↓reduceIte,Zd,hN0,hN];refine Zsd x1.v x2.v ?_;simp only [push_cast,seval,↓reduceIte,Ar.v];exact bZ.get):A:=e p0 ⟨⟩ ⟨⟩ ⟨b⟩
theorem zC {A B:Prop} {P0:Prop} (p0:P0) (b:B) (e:P0→Hid B→A:=by intro x0 bZ;refine Yr Zs [] ?_;simp only [push_cast,seval,↓reduceIte,Zd,hN0,hN];refine x0.then ?_;simp only [push_cast,seval,↓reduceIte,Zd,hN0,hN];exact bZ.get):A:=e p0 ⟨b⟩
theorem zTs {A B:Prop} {P0:Prop} (p0:P0) (b:B) (e:P0→Hid B→A:=by intro x0 bZ;refine x0.then ?_;simp only [push_cast,seval,↓reduceIte,Zd,hN0,hN];exact bZ.get):A:=e p0 ⟨b⟩
theorem zQD {A B:Prop} (l0:List Nat) (l1:List (Option Bool)) (b:B) (e:Ar l0→Ar l1→Hid B→A:=by intro x0 x1 bZ;refine Zef x0.v (Yr Zs x1.v ?_);simp only [push_cast,seval,↓reduceIte,Zd,Ar.v,hN0,hN];(repeat (with_reducible refine And.intro (by first | (intro h0;simp only [h0,and_self];done) | (intro h0;simp only [h0,Bool.not_false,Bool.not_true,Bool.true_and,Bool.and_true,true_and,and_true,and_self,imp_self,implies_true,bne_iff_ne,ne_eq,beq_iff_eq];done) | (intros;simp_all;done) | exact True.intro) ?_));exact bZ.get):A:=e ⟨⟩ ⟨⟩ ⟨b⟩
theorem zX1 {A B:Prop} {P0:Prop} (p0:P0) (b:B) (e:P0→Hid B→A:=by intro x0 bZ;simp only [push_cast,seval,↓reduceIte,Zd,x0,hN0,hN];exact bZ.get):A:=e p0 ⟨b⟩
theorem zX2 {A B:Prop} {P0:Prop} (p0:P0) {P1:Prop} (p1:P1) (b:B) (e:P0→P1→Hid B→A:=by intro x0 x1 bZ;simp only [push_cast,seval,↓reduceIte,Zd,x0,x1,hN0,hN];exact bZ.get):A:=e p0 p1 ⟨b⟩
theorem zX3 {A B:Prop} {P0:Prop} (p0:P0) {P1:Prop} (p1:P1) {P2:Prop} (p2:P2) (b:B) (e:P0→P1→P2→Hid B→A:=by intro x0 x1 x2 bZ;simp only [push_cast,seval,↓reduceIte,Zd,x0,x1,x2,hN0,hN];exact bZ.get):A:=e p0 p1 p2 ⟨b⟩
theorem zF7 {A B:Prop} {P0:Prop} (p0:P0) {P1:Prop} (p1:P1) {P2:Prop} (p2:P2) {P3:Prop} (p3:P3) {P4:Prop} (p4:P4) {P5:Prop} (p5:P5) {P6:Prop} (p6:P6) (b:B) (e:P0→P1→P2→P3→P4→P5→P6→Hid B→A:=by intro x0 x1 x2 x3 x4 x5 x6 bZ;simp only [push_cast,Nat.reduceAdd,Nat.reduceSub,Nat.reduceMul,Nat.reduceLeDiff,Nat.reduceLT,Nat.reduceEqDiff,↓reduceIte,reduceCtorEq,Int.reduceBEq,Int.reduceBNe,Nat.reduceBEq,Int.reduceLE,Int.reduceLT,Int.reduceEq,Int.reduceNe,Int.reduceNeg,Nat.reduceDiv,Nat.reduceMod,Nat.reducePow,Zd,x0,x1,x2,x3,x4,x5,x6,hN0,hN];exact bZ.get):A:=e p0 p1 p2 p3 p4 p5 p6 ⟨b⟩
theorem Z52 {A:Prop} {P0:Prop} (p0:P0) {P1:Prop} (p1:P1) {P2:Prop} (p2:P2) {P3:Prop} (p3:P3) {P4:Prop} (p4:P4) {P5:Prop} (p5:P5) {P6:Prop} (p6:P6) {P7:Prop} (p7:P7) (e:P0→P1→P2→P3→P4→P5→P6→P7→A:=by intro x0 x1 x2 x3 x4 x5 x6 x7;have h9:=Option.some.inj x0;subst h9;refine And.intro rfl (Fit2.of (Y0 hU rfl rfl ?_) (by omega));simp only [push_cast,Nat.reduceAdd,Nat.reduceSub,Nat.reduceMul,Nat.reduceLeDiff,Nat.reduceLT,Nat.reduceEqDiff,↓reduceIte,reduceCtorEq,Int.reduceBEq,Int.reduceBNe,Nat.reduceBEq,Int.reduceLE,Int.reduceLT,Int.reduceEq,Int.reduceNe,Int.reduceNeg,Nat.reduceDiv,Nat.reduceMod,Nat.reducePow,Zd,x1,x2,x3,x4,x5,x6,x7,hN0,hN]):A:=e p0 p1 p2 p3 p4 p5 p6 p7
theorem zF6 {A B:Prop} {P0:Prop} (p0:P0) {P1:Prop} (p1:P1) {P2:Prop} (p2:P2) {P3:Prop} (p3:P3) {P4:Prop} (p4:P4) {P5:Prop} (p5:P5) (b:B) (e:P0→P1→P2→P3→P4→P5→Hid B→A:=by intro x0 x1 x2 x3 x4 x5 bZ;simp only [push_cast,Nat.reduceAdd,Nat.reduceSub,Nat.reduceMul,Nat.reduceLeDiff,Nat.reduceLT,Nat.reduceEqDiff,↓reduceIte,reduceCtorEq,Int.reduceBEq,Int.reduceBNe,Nat.reduceBEq,Int.reduceLE,Int.reduceLT,Int.reduceEq,Int.reduceNe,Int.reduceNeg,Nat.reduceDiv,Nat.reduceMod,Nat.reducePow,Zd,x0,x1,x2,x3,x4,x5,hN0,hN];exact bZ.get):A:=e p0 p1 p2 p3 p4 p5 ⟨b⟩
theorem zDs {A B:Prop} (l0:List Nat) (l1:List Bool) (b:B) (e:Ar l0→Ar l1→Hid B→A:=by intro x0 x1 bZ;refine Zsd x0.v x1.v ?_;simp only [push_cast,seval,↓reduceIte,Ar.v];refine Zf ?_;exact bZ.get):A:=e ⟨⟩ ⟨⟩ ⟨b⟩
theorem zF9 {A B:Prop} {P0:Prop} (p0:P0) {P1:Prop} (p1:P1) {P2:Prop} (p2:P2) {P3:Prop} (p3:P3) {P4:Prop} (p4:P4) {P5:Prop} (p5:P5) {P6:Prop} (p6:P6) {P7:Prop} (p7:P7) {P8:Prop} (p8:P8) (b:B) (e:P0→P1→P2→P3→P4→P5→P6→P7→P8→Hid B→A:=by intro x0 x1 x2 x3 x4 x5 x6 x7 x8 bZ;simp only [push_cast,Nat.reduceAdd,Nat.reduceSub,Nat.reduceMul,Nat.reduceLeDiff,Nat.reduceLT,Nat.reduceEqDiff,↓reduceIte,reduceCtorEq,Int.reduceBEq,Int.reduceBNe,Nat.reduceBEq,Int.reduceLE,Int.reduceLT,Int.reduceEq,Int.reduceNe,Int.reduceNeg,Nat.reduceDiv,Nat.reduceMod,Nat.reducePow,Zd,x0,x1,x2,x3,x4,x5,x6,x7,x8,hN0,hN];exact bZ.get):A:=e p0 p1 p2 p3 p4 p5 p6 p7 p8 ⟨b⟩
theorem Ykd {A:Prop} {P0:Prop} (p0:P0) {P1:Prop} (p1:P1) {P2:Prop} (p2:P2) {P3:Prop} (p3:P3) {P4:Prop} (p4:P4) {P5:Prop} (p5:P5) {P6:Prop} (p6:P6) {P7:Prop} (p7:P7) {P8:Prop} (p8:P8) (e:P0→P1→P2→P3→P4→P5→P6→P7→P8→A:=by intro x0 x1 x2 x3 x4 x5 x6 x7 x8;simp only [push_cast,Nat.reduceAdd,Nat.reduceSub,Nat.reduceMul,Nat.reduceLeDiff,Nat.reduceLT,Nat.reduceEqDiff,↓reduceIte,reduceCtorEq,Int.reduceBEq,Int.reduceBNe,Nat.reduceBEq,Int.reduceLE,Int.reduceLT,Int.reduceEq,Int.reduceNe,Int.reduceNeg,Nat.reduceDiv,Nat.reduceMod,Nat.reducePow,Zd,x0,x1,x2,x3,x4,x5,x6,x7,x8,hN0,hN]):A:=e p0 p1 p2 p3 p4 p5 p6 p7 p8
theorem zSe {A:Prop} (e:A:=by simp only [push_cast,seval,↓reduceIte,Zd,hN0,hN]):A:=e
theorem Yqi {A B:Prop} {P0:Prop} (p0:P0) {P1:Prop} (p1:P1) {P2:Prop} (p2:P2) {P3:Prop} (p3:P3) {P4:Prop} (p4:P4) {P5:Prop} (p5:P5) {P6:Prop} (p6:P6) {P7:Prop} (p7:P7) {P8:Prop} (p8:P8) {P9:Prop} (p9:P9) (b:B) (e:P0→P1→P2→P3→P4→P5→P6→P7→P8→P9→Hid B→A:=by intro x0 x1 x2 x3 x4 x5 x6 x7 x8 x9 bZ;simp only [push_cast,Nat.reduceAdd,Nat.reduceSub,Nat.reduceMul,Nat.reduceLeDiff,Nat.reduceLT,Nat.reduceEqDiff,↓reduceIte,reduceCtorEq,Int.reduceBEq,Int.reduceBNe,Nat.reduceBEq,Int.reduceLE,Int.reduceLT,Int.reduceEq,Int.reduceNe,Int.reduceNeg,Nat.reduceDiv,Nat.reduceMod,Nat.reducePow,Zd,x0,x1,x2,x3,x4,x5,x6,x7,x8,x9,hN0,hN];exact bZ.get):A:=e p0 p1 p2 p3 p4 p5 p6 p7 p8 p9 ⟨b⟩
theorem Yoz {A:Prop} {P0:Prop} (p0:P0) {P1:Prop} (p1:P1) {P2:Prop} (p2:P2) {P3:Prop} (p3:P3) {P4:Prop} (p4:P4) {P5:Prop} (p5:P5) {P6:Prop} (p6:P6) {P7:Prop} (p7:P7) {P8:Prop} (p8:P8) {P9:Prop} (p9:P9) (e:P0→P1→P2→P3→P4→P5→P6→P7→P8→P9→A:=by intro x0 x1 x2 x3 x4 x5 x6 x7 x8 x9;simp only [push_cast,Nat.reduceAdd,Nat.reduceSub,Nat.reduceMul,Nat.reduceLeDiff,Nat.reduceLT,Nat.reduceEqDiff,↓reduceIte,reduceCtorEq,Int.reduceBEq,Int.reduceBNe,Nat.reduceBEq,Int.reduceLE,Int.reduceLT,Int.reduceEq,Int.reduceNe,Int.reduceNeg,Nat.reduceDiv,Nat.reduceMod,Nat.reducePow,Zd,x0,x1,x2,x3,x4,x5,x6,x7,x8,x9,hN0,hN]):A:=e p0 p1 p2 p3 p4 p5 p6 p7 p8 p9
theorem zF3 {A B:Prop} {P0:Prop} (p0:P0) {P1:Prop} (p1:P1) {P2:Prop} (p2:P2) (b:B) (e:P0→P1→P2→Hid B→A:=by intro x0 x1 x2 bZ;simp only [push_cast,Nat.reduceAdd,Nat.reduceSub,Nat.reduceMul,Nat.reduceLeDiff,Nat.reduceLT,Nat.reduceEqDiff,↓reduceIte,reduceCtorEq,Int.reduceBEq,Int.reduceBNe,Nat.reduceBEq,Int.reduceLE,Int.reduceLT,Int.reduceEq,Int.reduceNe,Int.reduceNeg,Nat.reduceDiv,Nat.reduceMod,Nat.reducePow,Zd,x0,x1,x2,hN0,hN];exact bZ.get):A:=e p0 p1 p2 ⟨b⟩
theorem zO {A B:Prop} (b:B) (e:Hid B→A:=by intro bZ;(repeat (with_reducible refine And.intro (by first | omega | exact Zjc rfl | exact Zg8 | exact Yak rfl | exact Z3s rfl rfl | exact Zwo rfl | exact Z3r rfl) ?_));exact bZ.get):A:=e ⟨b⟩
theorem zEy {A:Prop} {P0:Prop} (p0:P0) (e:P0→A:=by intro x0;have h9:=Option.some.inj x0;subst h9;refine And.intro (fun h=>by cases h) (And.intro rfl (Fit2.of (Y0 hU rfl rfl ?_) (by omega)));simp only [push_cast,seval,↓reduceIte,Zd,hN0,hN]):A:=e p0
theorem Zt5 {A:Prop} {P0:Prop} (p0:P0) {P1:Prop} (p1:P1) {P2:Prop} (p2:P2) (e:P0→P1→P2→A:=by intro x0 x1 x2;simp only [push_cast,seval,↓reduceIte,Zd,x0,x1,x2,hN0,hN]):A:=e p0 p1 p2
theorem Zgu {A B:Prop} (l0:List (Option Bool)) {P1:Prop} (p1:P1) {P2:Prop} (p2:P2) {P3:Prop} (p3:P3) (b:B) (e:Ar l0→P1→P2→P3→Hid B→A:=by intro x0 x1 x2 x3 bZ;refine Yr Zs x0.v ?_;simp only [push_cast,Nat.reduceAdd,Nat.reduceSub,Nat.reduceMul,Nat.reduceLeDiff,Nat.reduceLT,Nat.reduceEqDiff,↓reduceIte,reduceCtorEq,Int.reduceBEq,Int.reduceBNe,Nat.reduceBEq,Int.reduceLE,Int.reduceLT,Int.reduceEq,Int.reduceNe,Int.reduceNeg,Nat.reduceDiv,Nat.reduceMod,Nat.reducePow,Zd,Ar.v,x1,x2,x3,hN0,hN];exact bZ.get):A:=e ⟨⟩ p1 p2 p3 ⟨b⟩
theorem Zj4 {A B:Prop} (l0:List (Option Bool)) {P1:Prop} (p1:P1) {P2:Prop} (p2:P2) {P3:Prop} (p3:P3) {P4:Prop} (p4:P4) (b:B) (e:Ar l0→P1→P2→P3→P4→Hid B→A:=by intro x0 x1 x2 x3 x4 bZ;refine Yr Zs x0.v ?_;simp only [push_cast,Nat.reduceAdd,Nat.reduceSub,Nat.reduceMul,Nat.reduceLeDiff,Nat.reduceLT,Nat.reduceEqDiff,↓reduceIte,reduceCtorEq,Int.reduceBEq,Int.reduceBNe,Nat.reduceBEq,Int.reduceLE,Int.reduceLT,Int.reduceEq,Int.reduceNe,Int.reduceNeg,Nat.reduceDiv,Nat.reduceMod,Nat.reducePow,Zd,Ar.v,x1,x2,x3,x4,hN0,hN];exact bZ.get):A:=e ⟨⟩ p1 p2 p3 p4 ⟨b⟩
theorem zF4 {A B:Prop} {P0:Prop} (p0:P0) {P1:Prop} (p1:P1) {P2:Prop} (p2:P2) {P3:Prop} (p3:P3) (b:B) (e:P0→P1→P2→P3→Hid B→A:=by intro x0 x1 x2 x3 bZ;simp only [push_cast,Nat.reduceAdd,Nat.reduceSub,Nat.reduceMul,Nat.reduceLeDiff,Nat.reduceLT,Nat.reduceEqDiff,↓reduceIte,reduceCtorEq,Int.reduceBEq,Int.reduceBNe,Nat.reduceBEq,Int.reduceLE,Int.reduceLT,Int.reduceEq,Int.reduceNe,Int.reduceNeg,Nat.reduceDiv,Nat.reduceMod,Nat.reducePow,Zd,x0,x1,x2,x3,hN0,hN];exact bZ.get):A:=e p0 p1 p2 p3 ⟨b⟩
theorem Yi6 {A B:Prop} (l0:List (Option Bool)) {P1:Prop} (p1:P1) {P2:Prop} (p2:P2) {P3:Prop} (p3:P3) {P4:Prop} (p4:P4) {P5:Prop} (p5:P5) {P6:Prop} (p6:P6) {P7:Prop} (p7:P7) (b:B) (e:Ar l0→P1→P2→P3→P4→P5→P6→P7→Hid B→A:=by intro x0 x1 x2 x3 x4 x5 x6 x7 bZ;refine Yr Zs x0.v ?_;simp only [push_cast,Nat.reduceAdd,Nat.reduceSub,Nat.reduceMul,Nat.reduceLeDiff,Nat.reduceLT,Nat.reduceEqDiff,↓reduceIte,reduceCtorEq,Int.reduceBEq,Int.reduceBNe,Nat.reduceBEq,Int.reduceLE,Int.reduceLT,Int.reduceEq,Int.reduceNe,Int.reduceNeg,Nat.reduceDiv,Nat.reduceMod,Nat.reducePow,Zd,Ar.v,x1,x2,x3,x4,x5,x6,x7,hN0,hN];exact bZ.get):A:=e ⟨⟩ p1 p2 p3 p4 p5 p6 p7 ⟨b⟩
theorem Zx2 {A:Prop} {P0:Prop} (p0:P0) {P1:Prop} (p1:P1) {P2:Prop} (p2:P2) {P3:Prop} (p3:P3) {P4:Prop} (p4:P4) (e:P0→P1→P2→P3→P4→A:=by intro x0 x1 x2 x3 x4;have h9:=Option.some.inj x0;subst h9;refine And.intro rfl (Fit2.of (Y0 hU rfl rfl ?_) (by omega));simp only [push_cast,Nat.reduceAdd,Nat.reduceSub,Nat.reduceMul,Nat.reduceLeDiff,Nat.reduceLT,Nat.reduceEqDiff,↓reduceIte,reduceCtorEq,Int.reduceBEq,Int.reduceBNe,Nat.reduceBEq,Int.reduceLE,Int.reduceLT,Int.reduceEq,Int.reduceNe,Int.reduceNeg,Nat.reduceDiv,Nat.reduceMod,Nat.reducePow,Zd,x1,x2,x3,x4,hN0,hN]):A:=e p0 p1 p2 p3 p4
theorem zF8 {A B:Prop} {P0:Prop} (p0:P0) {P1:Prop} (p1:P1) {P2:Prop} (p2:P2) {P3:Prop} (p3:P3) {P4:Prop} (p4:P4) {P5:Prop} (p5:P5) {P6:Prop} (p6:P6) {P7:Prop} (p7:P7) (b:B) (e:P0→P1→P2→P3→P4→P5→P6→P7→Hid B→A:=by intro x0 x1 x2 x3 x4 x5 x6 x7 bZ;simp only [push_cast,Nat.reduceAdd,Nat.reduceSub,Nat.reduceMul,Nat.reduceLeDiff,Nat.reduceLT,Nat.reduceEqDiff,↓reduceIte,reduceCtorEq,Int.reduceBEq,Int.reduceBNe,Nat.reduceBEq,Int.reduceLE,Int.reduceLT,Int.reduceEq,Int.reduceNe,Int.reduceNeg,Nat.reduceDiv,Nat.reduceMod,Nat.reducePow,Zd,x0,x1,x2,x3,x4,x5,x6,x7,hN0,hN];exact bZ.get):A:=e p0 p1 p2 p3 p4 p5 p6 p7 ⟨b⟩
theorem Yox {A:Prop} {P0:Prop} (p0:P0) {P1:Prop} (p1:P1) {P2:Prop} (p2:P2) {P3:Prop} (p3:P3) {P4:Prop} (p4:P4) {P5:Prop} (p5:P5) {P6:Prop} (p6:P6) {P7:Prop} (p7:P7) {P8:Prop} (p8:P8) (e:P0→P1→P2→P3→P4→P5→P6→P7→P8→A:=by intro x0 x1 x2 x3 x4 x5 x6 x7 x8;have h9:=Option.some.inj x0;subst h9;refine And.intro rfl (Fit2.of (Y0 hU rfl rfl ?_) (by omega));simp only [push_cast,Nat.reduceAdd,Nat.reduceSub,Nat.reduceMul,Nat.reduceLeDiff,Nat.reduceLT,Nat.reduceEqDiff,↓reduceIte,reduceCtorEq,Int.reduceBEq,Int.reduceBNe,Nat.reduceBEq,Int.reduceLE,Int.reduceLT,Int.reduceEq,Int.reduceNe,Int.reduceNeg,Nat.reduceDiv,Nat.reduceMod,Nat.reducePow,Zd,x1,x2,x3,x4,x5,x6,x7,x8,hN0,hN]):A:=e p0 p1 p2 p3 p4 p5 p6 p7 p8
theorem zX5 {A B:Prop} {P0:Prop} (p0:P0) {P1:Prop} (p1:P1) {P2:Prop} (p2:P2) {P3:Prop} (p3:P3) {P4:Prop} (p4:P4) (b:B) (e:P0→P1→P2→P3→P4→Hid B→A:=by intro x0 x1 x2 x3 x4 bZ;simp only [push_cast,seval,↓reduceIte,Zd,x0,x1,x2,x3,x4,hN0,hN];exact bZ.get):A:=e p0 p1 p2 p3 p4 ⟨b⟩
theorem Yoy {A:Prop} {P0:Prop} (p0:P0) {P1:Prop} (p1:P1) {P2:Prop} (p2:P2) {P3:Prop} (p3:P3) {P4:Prop} (p4:P4) {P5:Prop} (p5:P5) (e:P0→P1→P2→P3→P4→P5→A:=by intro x0 x1 x2 x3 x4 x5;have h9:=Option.some.inj x0;subst h9;refine And.intro rfl (Fit2.of (Y0 hU rfl rfl ?_) (by omega));simp only [push_cast,seval,↓reduceIte,Zd,x1,x2,x3,x4,x5,hN0,hN]):A:=e p0 p1 p2 p3 p4 p5
theorem zX4 {A B:Prop} {P0:Prop} (p0:P0) {P1:Prop} (p1:P1) {P2:Prop} (p2:P2) {P3:Prop} (p3:P3) (b:B) (e:P0→P1→P2→P3→Hid B→A:=by intro x0 x1 x2 x3 bZ;simp only [push_cast,seval,↓reduceIte,Zd,x0,x1,x2,x3,hN0,hN];exact bZ.get):A:=e p0 p1 p2 p3 ⟨b⟩
theorem Zzn {A:Prop} {P0:Prop} (p0:P0) {P1:Prop} (p1:P1) {P2:Prop} (p2:P2) {P3:Prop} (p3:P3) {P4:Prop} (p4:P4) (e:P0→P1→P2→P3→P4→A:=by intro x0 x1 x2 x3 x4;have h9:=Option.some.inj x0;subst h9;refine And.intro rfl (Fit2.of (Y0 hU rfl rfl ?_) (by omega));simp only [push_cast,seval,↓reduceIte,Zd,x1,x2,x3,x4,hN0,hN]):A:=e p0 p1 p2 p3 p4
theorem Yo0 {A B:Prop} (l0:List Nat) {P1:Prop} (p1:P1) (b:B) (e:Ar l0→P1→Hid B→A:=by intro x0 x1 bZ;refine Zef x0.v (Yr Zs [] ?_);simp only [push_cast,seval,↓reduceIte,Zd,Ar.v,x1,hN0,hN];exact bZ.get):A:=e ⟨⟩ p1 ⟨b⟩
theorem Zty {A B:Prop} (l0:List (Option Bool)) {P1:Prop} (p1:P1) {P2:Prop} (p2:P2) {P3:Prop} (p3:P3) {P4:Prop} (p4:P4) (b:B) (e:Ar l0→P1→P2→P3→P4→Hid B→A:=by intro x0 x1 x2 x3 x4 bZ;refine Yr Zs x0.v ?_;simp only [push_cast,seval,↓reduceIte,Zd,Ar.v,x1,x2,x3,x4,hN0,hN];exact bZ.get):A:=e ⟨⟩ p1 p2 p3 p4 ⟨b⟩
theorem K6 {A:Prop} {P0:Prop} (p0:P0) {P1:Prop} (p1:P1) (e:P0→P1→A:=by intro x0 x1;simp only [push_cast,seval,↓reduceIte,Zd,x0,x1,hN0,hN]):A:=e p0 p1
theorem Yke {A:Prop} {P0:Prop} (p0:P0) {P1:Prop} (p1:P1) {P2:Prop} (p2:P2) {P3:Prop} (p3:P3) (e:P0→P1→P2→P3→A:=by intro x0 x1 x2 x3;simp only [push_cast,seval,↓reduceIte,Zd,x0,x1,x2,x3,hN0,hN]):A:=e p0 p1 p2 p3
theorem Yo2 {A B:Prop} (l0:List (Option Bool)) {P1:Prop} (p1:P1) {P2:Prop} (p2:P2) {P3:Prop} (p3:P3) {P4:Prop} (p4:P4) {P5:Prop} (p5:P5) {P6:Prop} (p6:P6) {P7:Prop} (p7:P7) {P8:Prop} (p8:P8) (b:B) (e:Ar l0→P1→P2→P3→P4→P5→P6→P7→P8→Hid B→A:=by intro x0 x1 x2 x3 x4 x5 x6 x7 x8 bZ;refine Yr Zs x0.v ?_;simp only [push_cast,Nat.reduceAdd,Nat.reduceSub,Nat.reduceMul,Nat.reduceLeDiff,Nat.reduceLT,Nat.reduceEqDiff,↓reduceIte,reduceCtorEq,Int.reduceBEq,Int.reduceBNe,Nat.reduceBEq,Int.reduceLE,Int.reduceLT,Int.reduceEq,Int.reduceNe,Int.reduceNeg,Nat.reduceDiv,Nat.reduceMod,Nat.reducePow,Zd,Ar.v,x1,x2,x3,x4,x5,x6,x7,x8,hN0,hN];exact bZ.get):A:=e ⟨⟩ p1 p2 p3 p4 p5 p6 p7 p8 ⟨b⟩
theorem Yow {A:Prop} {P0:Prop} (p0:P0) {P1:Prop} (p1:P1) {P2:Prop} (p2:P2) {P3:Prop} (p3:P3) {P4:Prop} (p4:P4) {P5:Prop} (p5:P5) (e:P0→P1→P2→P3→P4→P5→A:=by intro x0 x1 x2 x3 x4 x5;refine And.intro rfl (Fit2.of (Y0 hU rfl rfl ?_) (by omega));simp only [push_cast,Nat.reduceAdd,Nat.reduceSub,Nat.reduceMul,Nat.reduceLeDiff,Nat.reduceLT,Nat.reduceEqDiff,↓reduceIte,reduceCtorEq,Int.reduceBEq,Int.reduceBNe,Nat.reduceBEq,Int.reduceLE,Int.reduceLT,Int.reduceEq,Int.reduceNe,Int.reduceNeg,Nat.reduceDiv,Nat.reduceMod,Nat.reducePow,Zd,x0,x1,x2,x3,x4,x5,hN0,hN]):A:=e p0 p1 p2 p3 p4 p5
theorem Ykc {A:Prop} {P0:Prop} (p0:P0) {P1:Prop} (p1:P1) {P2:Prop} (p2:P2) {P3:Prop} (p3:P3) {P4:Prop} (p4:P4) {P5:Prop} (p5:P5) (e:P0→P1→P2→P3→P4→P5→A:=by intro x0 x1 x2 x3 x4 x5;simp only [push_cast,Nat.reduceAdd,Nat.reduceSub,Nat.reduceMul,Nat.reduceLeDiff,Nat.reduceLT,Nat.reduceEqDiff,↓reduceIte,reduceCtorEq,Int.reduceBEq,Int.reduceBNe,Nat.reduceBEq,Int.reduceLE,Int.reduceLT,Int.reduceEq,Int.reduceNe,Int.reduceNeg,Nat.reduceDiv,Nat.reduceMod,Nat.reducePow,Zd,x0,x1,x2,x3,x4,x5,hN0,hN]):A:=e p0 p1 p2 p3 p4 p5
theorem Zcn {A B:Prop} (l0:List Nat) {P1:Prop} (p1:P1) {P2:Prop} (p2:P2) (b:B) (e:Ar l0→P1→P2→Hid B→A:=by intro x0 x1 x2 bZ;refine Zef x0.v (Yr Zs [] ?_);simp only [push_cast,seval,↓reduceIte,Zd,Ar.v,x1,x2,hN0,hN];exact bZ.get):A:=e ⟨⟩ p1 p2 ⟨b⟩
theorem Ykf {A:Prop} {P0:Prop} (p0:P0) {P1:Prop} (p1:P1) {P2:Prop} (p2:P2) {P3:Prop} (p3:P3) {P4:Prop} (p4:P4) (e:P0→P1→P2→P3→P4→A:=by intro x0 x1 x2 x3 x4;simp only [push_cast,seval,↓reduceIte,Zd,x0,x1,x2,x3,x4,hN0,hN]):A:=e p0 p1 p2 p3 p4
theorem zXt {A B:Prop} (b:B) (e:Hid B→A:=by intro bZ;refine Ybw ?_;(try simp only [Yv,Z9,↓reduceIte,Nat.reduceEqDiff]);exact bZ.get):A:=e ⟨b⟩
theorem Yo3 {A B:Prop} (l0:List (Option Bool)) {P1:Prop} (p1:P1) {P2:Prop} (p2:P2) {P3:Prop} (p3:P3) {P4:Prop} (p4:P4) {P5:Prop} (p5:P5) (b:B) (e:Ar l0→P1→P2→P3→P4→P5→Hid B→A:=by intro x0 x1 x2 x3 x4 x5 bZ;refine Yr Zs x0.v ?_;simp only [push_cast,seval,↓reduceIte,Zd,Ar.v,x1,x2,x3,x4,x5,hN0,hN];exact bZ.get):A:=e ⟨⟩ p1 p2 p3 p4 p5 ⟨b⟩
theorem Zzo {A B:Prop} (l0:List (Option Bool)) {P1:Prop} (p1:P1) {P2:Prop} (p2:P2) {P3:Prop} (p3:P3) {P4:Prop} (p4:P4) {P5:Prop} (p5:P5) (b:B) (e:Ar l0→P1→P2→P3→P4→P5→Hid B→A:=by intro x0 x1 x2 x3 x4 x5 bZ;refine Yr Zs x0.v ?_;simp only [push_cast,Nat.reduceAdd,Nat.reduceSub,Nat.reduceMul,Nat.reduceLeDiff,Nat.reduceLT,Nat.reduceEqDiff,↓reduceIte,reduceCtorEq,Int.reduceBEq,Int.reduceBNe,Nat.reduceBEq,Int.reduceLE,Int.reduceLT,Int.reduceEq,Int.reduceNe,Int.reduceNeg,Nat.reduceDiv,Nat.reduceMod,Nat.reducePow,Zd,Ar.v,x1,x2,x3,x4,x5,hN0,hN];exact bZ.get):A:=e ⟨⟩ p1 p2 p3 p4 p5 ⟨b⟩
theorem Yo1 {A B:Prop} (l0:List Nat) {P1:Prop} (p1:P1) {P2:Prop} (p2:P2) {P3:Prop} (p3:P3) {P4:Prop} (p4:P4) (b:B) (e:Ar l0→P1→P2→P3→P4→Hid B→A:=by intro x0 x1 x2 x3 x4 bZ;refine Zef x0.v (Yr Zs [] ?_);simp only [push_cast,seval,↓reduceIte,Zd,Ar.v,x1,x2,x3,x4,hN0,hN];exact bZ.get):A:=e ⟨⟩ p1 p2 p3 p4 ⟨b⟩
theorem Z51 {A:Prop} {P0:Prop} (p0:P0) {P1:Prop} (p1:P1) {P2:Prop} (p2:P2) {P3:Prop} (p3:P3) {P4:Prop} (p4:P4) {P5:Prop} (p5:P5) (e:P0→P1→P2→P3→P4→P5→A:=by intro x0 x1 x2 x3 x4 x5;have h9:=Option.some.inj x0;subst h9;refine And.intro rfl (Fit2.of (Y0 hU rfl rfl ?_) (by omega));simp only [push_cast,Nat.reduceAdd,Nat.reduceSub,Nat.reduceMul,Nat.reduceLeDiff,Nat.reduceLT,Nat.reduceEqDiff,↓reduceIte,reduceCtorEq,Int.reduceBEq,Int.reduceBNe,Nat.reduceBEq,Int.reduceLE,Int.reduceLT,Int.reduceEq,Int.reduceNe,Int.reduceNeg,Nat.reduceDiv,Nat.reduceMod,Nat.reducePow,Zd,x1,x2,x3,x4,x5,hN0,hN]):A:=e p0 p1 p2 p3 p4 p5
theorem Yo4 {A B:Prop} (l0:List (Option Bool)) {P1:Prop} (p1:P1) {P2:Prop} (p2:P2) {P3:Prop} (p3:P3) {P4:Prop} (p4:P4) {P5:Prop} (p5:P5) {P6:Prop} (p6:P6) {P7:Prop} (p7:P7) (b:B) (e:Ar l0→P1→P2→P3→P4→P5→P6→P7→Hid B→A:=by intro x0 x1 x2 x3 x4 x5 x6 x7 bZ;refine Yr Zs x0.v ?_;simp only [push_cast,seval,↓reduceIte,Zd,Ar.v,x1,x2,x3,x4,x5,x6,x7,hN0,hN];exact bZ.get):A:=e ⟨⟩ p1 p2 p3 p4 p5 p6 p7 ⟨b⟩
end Go.Proofs.YtmlcnhambfkjaaaGreat
