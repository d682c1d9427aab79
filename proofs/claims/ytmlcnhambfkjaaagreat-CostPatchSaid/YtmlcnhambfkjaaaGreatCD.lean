/- Part CD of this seat's mirrors: functions of the seat's program, and the plain functions that they are; each theorem bears its own conditions. -/
import Derived.Test.YtmlcnhambfkjaaaGreatH26
namespace Go.Proofs.YtmlcnhambfkjaaaGreat
open Go.RowKit
set_option linter.unusedVariables false
set_option linter.unusedSimpArgs false
set_option maxRecDepth 100000
set_option maxHeartbeats 4000000
noncomputable def Jk (a0:Int):Option Int :=
 cond (a0 == 0) (some 0) (cond (a0 == 1) (some 1) (cond (a0 == 2) (some 8) (cond (a0 == 3) (some 16) (cond (a0 == 4) (some 32) (cond (a0 == 5) (some 64) (some (-1)))))))
noncomputable def Qt (y2:Int) (s0_:(Int×Int)):Option ((Int×Int) ⊕ Int) :=
 cond (decide (s0_.2 < y2)) (some (.inl ((IntKind.u64.wrap (Int.tdiv s0_.1 2)),(IntKind.i64.wrap (s0_.2+1))))) (some (.inr s0_.1))
noncomputable def Vf (a0:Int) (a1:Int):Option Bool :=
 (Jk a0).bind fun y2=>cond (decide (y2 < 0)) (some false) ((Zx (Qt y2) (a1,0)).bind fun (z4:Int)=>some (z4 == 0))
structure Za where
 Kind:Int
 Words:(List Int)
 Kids:(List Za)
noncomputable def Vx (Jn:(Za→Int→Option Bool)) (a0:Za) (a1:Int) (s0_:Int):Option (Int ⊕ (Unit ⊕ Unit)) :=
 cond (decide (s0_ < (a0.Kids.length:Int))) ((Xd a0.Kids s0_).bind fun x2=>(Jn x2 (IntKind.i64.wrap (a1 - 1))).bind fun y4=>cond (!y4) (some (.inr (.inl ()))) ((cond ((cond (decide (2≤a0.Kind)) (decide (a0.Kind≤7)) false) != (x2.Kind == 10)) (some true) (cond (a0.Kind == 9) (cond (x2.Kind != 1) (some true) (cond (decide (2≤a0.Kind)) (cond (decide (a0.Kind≤7)) ((Xd x2.Words 0).bind fun x14=>(Vf (IntKind.i64.wrap (a0.Kind - 2)) x14).bind fun y15=>some (cond (cond ((cond (decide (2≤a0.Kind)) (decide (a0.Kind≤7)) false) != (x2.Kind == 10)) true (cond (a0.Kind == 9) (x2.Kind != 1) false)) true (cond (cond (decide (2≤a0.Kind)) (decide (a0.Kind≤7)) false) (!y15) false))) (some (cond (cond ((cond (decide (2≤a0.Kind)) (decide (a0.Kind≤7)) false) != (x2.Kind == 10)) true (cond (a0.Kind == 9) (x2.Kind != 1) false)) true false))) (some (cond (cond ((cond (decide (2≤a0.Kind)) (decide (a0.Kind≤7)) false) != (x2.Kind == 10)) true (cond (a0.Kind == 9) (x2.Kind != 1) false)) true false)))) (cond (decide (2≤a0.Kind)) (cond (decide (a0.Kind≤7)) ((Xd x2.Words 0).bind fun x16=>(Vf (IntKind.i64.wrap (a0.Kind - 2)) x16).bind fun y17=>some (cond (cond ((cond (decide (2≤a0.Kind)) (decide (a0.Kind≤7)) false) != (x2.Kind == 10)) true (cond (a0.Kind == 9) (x2.Kind != 1) false)) true (cond (cond (decide (2≤a0.Kind)) (decide (a0.Kind≤7)) false) (!y17) false))) (some (cond (cond ((cond (decide (2≤a0.Kind)) (decide (a0.Kind≤7)) false) != (x2.Kind == 10)) true (cond (a0.Kind == 9) (x2.Kind != 1) false)) true false))) (some (cond (cond ((cond (decide (2≤a0.Kind)) (decide (a0.Kind≤7)) false) != (x2.Kind == 10)) true (cond (a0.Kind == 9) (x2.Kind != 1) false)) true false))))).bind fun (z9:Bool)=>cond z9 (some (.inr (.inl ()))) (some (.inl (IntKind.i64.wrap (s0_+1)))))) (some (.inr (.inr ())))
noncomputable def Gy (Jn:(Za→Int→Option Bool)) (a0:Za) (a1:Int):Option Bool :=
 cond (a0.Kind == 0) (some (cond ((a0.Words.length:Int) == 0) ((a0.Kids.length:Int) == 0) false)) (cond (a0.Kind == 10) (some (cond ((a0.Words.length:Int) == 1) ((a0.Kids.length:Int) == 0) false)) (cond (cond (cond (cond (cond (cond (decide (a0.Kind < 0)) true (decide (10 < a0.Kind))) true (a1 == 0)) true (decide (65536≤(a0.Words.length:Int)))) true (cond (a0.Kind == 1) (decide (65536≤(a0.Kids.length:Int))) false)) true (decide (1048576≤(a0.Kids.length:Int)))) (some false) (cond (cond (decide (1 < a0.Kind)) (decide (0 < (a0.Words.length:Int))) false) (some false) ((Zx (Vx Jn a0 a1) 0).bind fun (z28:(Unit ⊕ Unit))=>match z28 with | .inl z28=>some false | .inr z28=>some true))))
noncomputable def Jv:Nat→(Za→Int→Option Bool)
 | 0=>(fun _ _=>none)
 | k+1=>Gy ((Jv k))
noncomputable def V5 (a0:Za) (a1:Int):Option Bool:=lim fun k=>(Jv k) a0 a1
noncomputable def Za9 (a0:(List Int)) (s0_:Int):Option (Int ⊕ Int) :=
 (cond (decide (0 < s0_)) ((Xd a0 (IntKind.i64.wrap (s0_ - 1))).bind fun x4=>some (cond (decide (0 < s0_)) (x4 == 0) false)) (some false)).bind fun (z2:Bool)=>cond z2 (some (.inl (IntKind.i64.wrap (s0_ - 1)))) (some (.inr s0_))
noncomputable def Zh9 (a0:(List Int)):Option (List Int) :=
 (Zx (Za9 a0) (a0.length:Int)).bind fun (z7:Int)=>(Zka a0 0 z7).bind fun l10=>(Zjm 8 ([]:List Int) l10).bind fun l11=>some l11
noncomputable def Kw (Zio:(Za→Option Za)) (a0:Za) (s0_:(Int×Int×(List Za))):Option ((Int×Int×(List Za)) ⊕ (Int×(List Za))) :=
 cond (decide (s0_.2.1 < (a0.Kids.length:Int))) (((Xd a0.Kids s0_.2.1).bind fun x4=>(Zio x4).bind fun y5=>(Zjm 56 s0_.2.2 ([y5]:List Za)).bind fun l7=>cond (y5.Kind != 0) (some ((IntKind.i64.wrap (s0_.2.1+1)),l7)) (some (s0_.1,l7))).bind fun (z1:(Int×(List Za)))=>some (.inl (z1.1,(IntKind.i64.wrap (s0_.2.1+1)),z1.2))) (some (.inr (s0_.1,s0_.2.2)))
noncomputable def Zhl (Zio:(Za→Option Za)) (a0:Za):Option Za :=
 cond (a0.Kind == 0) (some (⟨0,[],[]⟩:Za)) ((Zx (Kw Zio a0) (0,0,([]:List Za))).bind fun (z10:(Int×(List Za)))=>cond (a0.Kind == 1) ((Zh9 a0.Words).bind fun y14=>(Zka z10.2 0 z10.1).bind fun l15=>some (⟨1,y14,l15⟩:Za)) ((Zjm 8 ([]:List Int) a0.Words).bind fun l17=>some (⟨a0.Kind,l17,z10.2⟩:Za)))
noncomputable def Qz:Nat→(Za→Option Za)
 | 0=>(fun _=>none)
 | k+1=>Zhl ((Qz k))
noncomputable def Zl7 (a0:Za):Option Za:=lim fun k=>(Qz k) a0
noncomputable def Zep (a0:Int) (a1:Int):Option Int :=
 (Jk a0).bind fun y2=>cond (cond (cond (decide (y2 < 1)) true (decide (a1 < 0))) true (decide (1099511627776 < a1))) (some 0) ((Jk a0).bind fun y5=>(Vs (y5≠0)).bind fun u6=>(Vs ((IntKind.i64.wrap (Int.tdiv 64 y5))≠0)).bind fun u8=>cond (decide (0 < (Int.tmod a1 (IntKind.i64.wrap (Int.tdiv 64 y5))))) ((Vs ((IntKind.i64.wrap (Int.tdiv 64 y5))≠0)).bind fun u10=>some (IntKind.i64.wrap ((IntKind.i64.wrap (Int.tdiv a1 (IntKind.i64.wrap (Int.tdiv 64 y5))))+1))) ((Vs ((IntKind.i64.wrap (Int.tdiv 64 y5))≠0)).bind fun u12=>some (IntKind.i64.wrap (Int.tdiv a1 (IntKind.i64.wrap (Int.tdiv 64 y5))))))
noncomputable def Zam (a0:Za) (s0_:(Int×Int×Int)):Option ((Int×Int×Int) ⊕ (Int×Int)) :=
 cond (decide (s0_.2.2 < (a0.Kids.length:Int))) ((((Xd a0.Kids s0_.2.2).bind fun x5=>cond (decide (s0_.1 < (x5.Words.length:Int))) ((Xd a0.Kids s0_.2.2).bind fun x7=>some (x7.Words.length:Int)) (some s0_.1)).bind fun (z2:Int)=>(Xd a0.Kids s0_.2.2).bind fun x12=>cond (decide (s0_.2.1 < (x12.Kids.length:Int))) ((Xd a0.Kids s0_.2.2).bind fun x14=>some (z2,(x14.Kids.length:Int))) (some (z2,s0_.2.1))).bind fun (z1:(Int×Int))=>some (.inl (z1.1,z1.2,(IntKind.i64.wrap (s0_.2.2+1))))) (some (.inr (s0_.1,s0_.2.1)))
noncomputable def Zda (a0:Za):Option (Int×Int) :=
 (Zx (Zam a0) (0,0,0)).bind fun (z18:(Int×Int))=>some (z18.1,z18.2)
noncomputable def Za5 (J5:(Za→Option Int)) (a0:Za) (s0_:(Int×Int)) (s1_:(Int×Int)):Option ((Int×Int) ⊕ Int) :=
 (Xd a0.Kids s0_.2).bind fun x14=>cond (decide (s1_.2 < (x14.Kids.length:Int))) ((Xd a0.Kids s0_.2).bind fun x16=>(Xd x16.Kids s1_.2).bind fun x18=>(J5 x18).bind fun y19=>some (.inl ((IntKind.i64.wrap (s1_.1+y19)),(IntKind.i64.wrap (s1_.2+1))))) (some (.inr s1_.1))
noncomputable def Za4 (J5:(Za→Option Int)) (a0:Za) (s0_:(Int×Int)):Option ((Int×Int) ⊕ Int) :=
 cond (decide (s0_.2 < (a0.Kids.length:Int))) ((Zx (Za5 J5 a0 s0_) (s0_.1,0)).bind fun (z21:Int)=>some (.inl (z21,(IntKind.i64.wrap (s0_.2+1))))) (some (.inr s0_.1))
noncomputable def Ul (J5:(Za→Option Int)) (a0:Za) (s2_:(Int×Int)):Option ((Int×Int) ⊕ Int) :=
 cond (decide (s2_.2 < (a0.Kids.length:Int))) ((Xd a0.Kids s2_.2).bind fun x28=>(J5 x28).bind fun y29=>some (.inl ((IntKind.i64.wrap (s2_.1+y29)),(IntKind.i64.wrap (s2_.2+1))))) (some (.inr s2_.1))
noncomputable def Zhm (J5:(Za→Option Int)) (a0:Za):Option Int :=
 (cond (a0.Kind == 1) (some (.inl (IntKind.i64.wrap ((a0.Words.length:Int)+(a0.Kids.length:Int))))) (cond (a0.Kind == 8) (some (.inl (a0.Kids.length:Int))) ((cond (a0.Kind == 2) (some (a0.Kind == 2)) (cond (a0.Kind == 3) (some (a0.Kind == 3)) (cond (a0.Kind == 4) (some (a0.Kind == 4)) (cond (a0.Kind == 5) (some (a0.Kind == 5)) (cond (a0.Kind == 6) (some (a0.Kind == 6)) (some (a0.Kind == 7))))))).bind fun (z2:Bool)=>cond z2 ((Zep (IntKind.i64.wrap (a0.Kind - 2)) (a0.Kids.length:Int)).bind fun y9=>some (.inr y9)) (cond (a0.Kind == 9) ((Zda a0).bind fun y11=>(Zx (Za4 J5 a0) ((IntKind.i64.wrap (1+(IntKind.i64.wrap ((a0.Kids.length:Int) * (IntKind.i64.wrap (y11.1+y11.2)))))),0)).bind fun (z23:Int)=>some (.inr z23)) (some (.inl 0)))))).bind fun (z1:(Int ⊕ Int))=>match z1 with | .inl z1=>(Zx (Ul J5 a0) (z1,0)).bind fun (z31:Int)=>some z31 | .inr z1=>some z1
noncomputable def Qc:Nat→(Za→Option Int)
 | 0=>(fun _=>none)
 | k+1=>Zhm ((Qc k))
noncomputable def Zh8 (a0:Za):Option Int:=lim fun k=>(Qc k) a0
noncomputable def K2 (a0:Int) (a1:Int) (a2:Int) (a3:Int):Option Int :=
 (cond (decide ((IntKind.i64.wrap ((IntKind.i64.wrap (a1 - a0)) - 1)) < 0)) (some (IntKind.i64.wrap ((IntKind.i64.wrap ((IntKind.i64.wrap (a1 - a0)) - 1))+1073741824))) (some (IntKind.i64.wrap ((IntKind.i64.wrap (a1 - a0)) - 1)))).bind fun (z1:Int)=>some (IntKind.u64.wrap ((IntKind.u64.wrap (IntKind.i64.wrap ((IntKind.i64.wrap (4 * z1))+a2)))+(IntKind.u64.wrap (a3 * 4294967296))))
noncomputable def Zb9 (a1:Int) (s0_:(Int×(List Int))):Option ((Int×(List Int)) ⊕ (List Int)) :=
 cond (decide (s0_.1 < a1)) ((Zjm 8 s0_.2 ([0]:List Int)).bind fun l1=>some (.inl ((IntKind.i64.wrap (s0_.1+1)),l1))) (some (.inr s0_.2))
noncomputable def Zcx (a0:(List Int)) (a1:Int):Option (List Int) :=
 (Zx (Zb9 a1) (0,a0)).bind fun (z3:(List Int))=>some z3
noncomputable def Zan (a0:Za) (s0_:(Int×(List Int))):Option ((Int×(List Int)) ⊕ (List Int)) :=
 cond (decide (s0_.1 < (a0.Kids.length:Int))) ((Xd a0.Kids s0_.1).bind fun x1=>(Xd x1.Words 0).bind fun x3=>(Zjm 8 s0_.2 ([x3]:List Int)).bind fun l4=>some (.inl ((IntKind.i64.wrap (s0_.1+1)),l4))) (some (.inr s0_.2))
noncomputable def Zgs (a0:Za):Option (List Int) :=
 (Zx (Zan a0) (0,([]:List Int))).bind fun (z6:(List Int))=>some z6
noncomputable def Zf1 (y2:Int) (s0_:(Int×(List Int))) (s1_:(Int×Int)):Option ((Int×Int) ⊕ Int) :=
 cond (decide (s1_.2 < (Int.tmod (IntKind.i64.wrap (s0_.1 * y2)) 64))) (some (.inl ((IntKind.u64.wrap (s1_.1 * 2)),(IntKind.i64.wrap (s1_.2+1))))) (some (.inr s1_.1))
noncomputable def X6 (a0:Int) (a1:(List Int)) (y2:Int) (s0_:(Int×(List Int))):Option ((Int×(List Int)) ⊕ (Unit ⊕ (List Int))) :=
 cond (decide (s0_.1 < (a1.length:Int))) (((Xd a1 s0_.1).bind fun x9=>(Vf a0 x9).bind fun y11=>cond (!y11) (some (.inr ())) ((Zx (Zf1 y2 s0_) (x9,0)).bind fun (z13:Int)=>cond (decide (0 < y2)) ((Xd s0_.2 (IntKind.i64.wrap (Int.tdiv (IntKind.i64.wrap (s0_.1 * y2)) 64))).bind fun x14=>some (.inl (Jo s0_.2 (IntKind.i64.wrap (Int.tdiv (IntKind.i64.wrap (s0_.1 * y2)) 64)) (IntKind.u64.wrap (x14+z13))))) (some (.inl s0_.2)))).bind fun (z7:((List Int) ⊕ Unit))=>match z7 with | .inl z7=>some (.inl ((IntKind.i64.wrap (s0_.1+1)),z7)) | .inr z7=>some (.inr (.inl ()))) (some (.inr (.inr s0_.2)))
noncomputable def Zi6 (a0:Int) (a1:(List Int)):Option ((List Int)×Bool) :=
 (Jk a0).bind fun y2=>cond (decide (y2 < 0)) (some (([]:(List Int)),false)) ((Zep a0 (a1.length:Int)).bind fun y5=>(Zke 8 y5 (0:Int)).bind fun l6=>(Zx (X6 a0 a1 y2) (0,l6)).bind fun (z20:(Unit ⊕ (List Int)))=>match z20 with | .inl z20=>some (([]:(List Int)),false) | .inr z20=>some (z20,true))
noncomputable def Zb0 (Qo:((List Int)→Int→Za→Option (List Int))) (a2:Za) (z1:Int) (s0_:(Int×(List Int))):Option ((Int×(List Int)) ⊕ (List Int)) :=
 cond (decide (s0_.1 < (a2.Kids.length:Int))) ((Xd a2.Kids s0_.1).bind fun x13=>(Qo s0_.2 (IntKind.i64.wrap ((IntKind.i64.wrap (z1+(a2.Words.length:Int)))+s0_.1)) x13).bind fun y14=>some (.inl ((IntKind.i64.wrap (s0_.1+1)),y14))) (some (.inr s0_.2))
noncomputable def Zb1 (Qo:((List Int)→Int→Za→Option (List Int))) (a0:(List Int)) (a2:Za) (s1_:(Int×(List Int))):Option ((Int×(List Int)) ⊕ (List Int)) :=
 cond (decide (s1_.1 < (a2.Kids.length:Int))) ((Xd a2.Kids s1_.1).bind fun x25=>(Qo s1_.2 (IntKind.i64.wrap ((a0.length:Int)+s1_.1)) x25).bind fun y26=>some (.inl ((IntKind.i64.wrap (s1_.1+1)),y26))) (some (.inr s1_.2))
noncomputable def Zb2 (a2:Za) (y30:(Int×Int)) (s2_:(Int×(List Int))):Option ((Int×(List Int)) ⊕ (List Int)) :=
 cond (decide (s2_.1 < (a2.Kids.length:Int))) ((Xd a2.Kids s2_.1).bind fun x42=>(Zjm 8 s2_.2 x42.Words).bind fun l44=>(Xd a2.Kids s2_.1).bind fun x45=>(Zcx l44 (IntKind.i64.wrap ((IntKind.i64.wrap (y30.1+y30.2)) - (x45.Words.length:Int)))).bind fun y47=>some (.inl ((IntKind.i64.wrap (s2_.1+1)),y47))) (some (.inr s2_.2))
noncomputable def Zb4 (Qo:((List Int)→Int→Za→Option (List Int))) (a0:(List Int)) (a2:Za) (y30:(Int×Int)) (s3_:(Int×(List Int))) (s4_:(Int×(List Int))):Option ((Int×(List Int)) ⊕ (List Int)) :=
 (Xd a2.Kids s3_.1).bind fun x52=>cond (decide (s4_.1 < (x52.Kids.length:Int))) ((Xd a2.Kids s3_.1).bind fun x54=>(Xd x54.Kids s4_.1).bind fun x56=>(Qo s4_.2 (IntKind.i64.wrap ((IntKind.i64.wrap ((IntKind.i64.wrap ((IntKind.i64.wrap ((a0.length:Int)+1))+(IntKind.i64.wrap (s3_.1 * (IntKind.i64.wrap (y30.1+y30.2))))))+y30.1))+s4_.1)) x56).bind fun y57=>some (.inl ((IntKind.i64.wrap (s4_.1+1)),y57))) (some (.inr s4_.2))
noncomputable def Zb3 (Qo:((List Int)→Int→Za→Option (List Int))) (a0:(List Int)) (a2:Za) (y30:(Int×Int)) (s3_:(Int×(List Int))):Option ((Int×(List Int)) ⊕ (List Int)) :=
 cond (decide (s3_.1 < (a2.Kids.length:Int))) ((Zx (Zb4 Qo a0 a2 y30 s3_) (0,s3_.2)).bind fun (z59:(List Int))=>some (.inl ((IntKind.i64.wrap (s3_.1+1)),z59))) (some (.inr s3_.2))
noncomputable def Q2 (Qo:((List Int)→Int→Za→Option (List Int))) (a0:(List Int)) (a1:Int) (a2:Za):Option (List Int) :=
 cond (a2.Kind == 0) (some a0) (cond (a2.Kind == 1) ((cond ((IntKind.i64.wrap ((a2.Words.length:Int)+(a2.Kids.length:Int))) == 0) (some a1) (some (a0.length:Int))).bind fun (z1:Int)=>(K2 a1 z1 0 (IntKind.u64.wrap ((IntKind.u64.wrap (a2.Words.length:Int))+(IntKind.u64.wrap (65536 * (IntKind.u64.wrap (a2.Kids.length:Int))))))).bind fun y6=>(Xd a0 a1).bind fun x7=>(Zjm 8 (Jo a0 a1 y6) a2.Words).bind fun l10=>(Zcx l10 (a2.Kids.length:Int)).bind fun y12=>(Zx (Zb0 Qo a2 z1) (0,y12)).bind fun (z16:(List Int))=>some z16) (cond (a2.Kind == 8) ((K2 a1 (a0.length:Int) 1 (IntKind.u64.wrap (6+(IntKind.u64.wrap (8 * (IntKind.u64.wrap (a2.Kids.length:Int))))))).bind fun y20=>(Xd a0 a1).bind fun x21=>(Zcx (Jo a0 a1 y20) (a2.Kids.length:Int)).bind fun y24=>(Zx (Zb1 Qo a0 a2) (0,y24)).bind fun (z28:(List Int))=>some z28) (cond (a2.Kind == 9) ((Zda a2).bind fun y30=>(K2 a1 (a0.length:Int) 1 (IntKind.u64.wrap (7+(IntKind.u64.wrap (8 * (IntKind.u64.wrap (IntKind.i64.wrap ((a2.Kids.length:Int) * (IntKind.i64.wrap (y30.1+y30.2)))))))))).bind fun y34=>(Xd a0 a1).bind fun x35=>(Zjm 8 (Jo a0 a1 y34) ([(IntKind.u64.wrap ((IntKind.u64.wrap (IntKind.i64.wrap (4 * (a2.Kids.length:Int))))+(IntKind.u64.wrap (4294967296 * (IntKind.u64.wrap ((IntKind.u64.wrap y30.1)+(IntKind.u64.wrap (65536 * (IntKind.u64.wrap y30.2)))))))))]:List Int)).bind fun l38=>(Zx (Zb2 a2 y30) (0,l38)).bind fun (z49:(List Int))=>(Zx (Zb3 Qo a0 a2 y30) (0,z49)).bind fun (z61:(List Int))=>some z61) ((Zgs a2).bind fun y64=>(Zi6 (IntKind.i64.wrap (a2.Kind - 2)) y64).bind fun y65=>(K2 a1 (a0.length:Int) 1 (IntKind.u64.wrap ((IntKind.u64.wrap (IntKind.i64.wrap (a2.Kind - 2)))+(IntKind.u64.wrap (8 * (IntKind.u64.wrap (a2.Kids.length:Int))))))).bind fun y69=>(Xd a0 a1).bind fun x70=>(Zjm 8 (Jo a0 a1 y69) y65.1).bind fun l73=>some l73))))
noncomputable def Y6:Nat→((List Int)→Int→Za→Option (List Int))
 | 0=>(fun _ _ _=>none)
 | k+1=>Q2 ((Y6 k))
noncomputable def Znb (a0:(List Int)) (a1:Int) (a2:Za):Option (List Int):=lim fun k=>(Y6 k) a0 a1 a2
noncomputable def Zkd (a0:Za) (a1:Int):Option ((List Int)×Bool) :=
 (V5 a0 64).bind fun y2=>cond (cond (!y2) true (a0.Kind == 10)) (some (([]:(List Int)),false)) ((Zl7 a0).bind fun y4=>((Zh8 y4).bind fun y10=>cond (decide (a1≤y10)) (some true) ((Zh8 y4).bind fun y11=>some (cond (decide (a1≤y10)) true (decide (131072≤y11))))).bind fun (z7:Bool)=>cond z7 (some (([]:(List Int)),false)) ((Znb ([0]:List Int) 0 y4).bind fun y14=>some (y14,true)))
noncomputable def Qk (Qv:(Za→Int→Int→Option Int)) (a0:Za) (a1:Int) (s0_:(Int×Int)):Option ((Int×Int) ⊕ Int) :=
 cond (cond (decide (s0_.2 < (a0.Kids.length:Int))) (decide (0≤s0_.1)) false) ((Xd a0.Kids s0_.2).bind fun x1=>(Qv x1 (IntKind.i64.wrap (a1 - 1)) s0_.1).bind fun y2=>some (.inl (y2,(IntKind.i64.wrap (s0_.2+1))))) (some (.inr s0_.1))
noncomputable def Qs (Qv:(Za→Int→Int→Option Int)) (a0:Za) (a1:Int) (a2:Int):Option Int :=
 cond (cond (a1 == 0) true (decide ((IntKind.i64.wrap ((IntKind.i64.wrap (a2 - 1)) - (a0.Words.length:Int))) < 0))) (some (-1)) ((Zx (Qk Qv a0 a1) ((IntKind.i64.wrap ((IntKind.i64.wrap (a2 - 1)) - (a0.Words.length:Int))),0)).bind fun (z4:Int)=>some z4)
noncomputable def Y7:Nat→(Za→Int→Int→Option Int)
 | 0=>(fun _ _ _=>none)
 | k+1=>Qs ((Y7 k))
noncomputable def Qu (a0:Za) (a1:Int) (a2:Int):Option Int:=lim fun k=>(Y7 k) a0 a1 a2
structure Z6 where
 At:Int
 Mask:Int
 Old:Int
 New:Int
mutual
structure Zh where
 Kind:Int
 Old:Za
 New:Za
 Words:(List Z6)
 Kids:(List Zn)
 List_:Int
 Ops:(List Zt)
structure Zn where
 At:Int
 E:Zh
structure Zt where
 Kind:Int
 N:Int
 L:(List Za)
 E:Zh
end
noncomputable def Xp (Qa:(Zh→Int→Int→Option Int)) (a0:Zh) (a1:Int) (s0_:(Int×Int)):Option ((Int×Int) ⊕ Int) :=
 cond (cond (decide (s0_.2 < (a0.Kids.length:Int))) (decide (0≤s0_.1)) false) ((Xd a0.Kids s0_.2).bind fun x6=>(Qa x6.E (IntKind.i64.wrap (a1 - 1)) s0_.1).bind fun y8=>some (.inl (y8,(IntKind.i64.wrap (s0_.2+1))))) (some (.inr s0_.1))
noncomputable def Xr (a0:Zh) (s1_:(Int×Int)) (s2_:(Int×Int)):Option ((Int×Int) ⊕ Int) :=
 (Xd a0.Ops s1_.2).bind fun x14=>cond (cond (decide (s2_.2 < (x14.L.length:Int))) (decide (0≤s2_.1)) false) ((Xd a0.Ops s1_.2).bind fun x16=>(Xd x16.L s2_.2).bind fun x18=>(Qu x18 80 s2_.1).bind fun y19=>some (.inl (y19,(IntKind.i64.wrap (s2_.2+1))))) (some (.inr s2_.1))
noncomputable def Xq (Qa:(Zh→Int→Int→Option Int)) (a0:Zh) (a1:Int) (s1_:(Int×Int)):Option ((Int×Int) ⊕ Int) :=
 cond (cond (decide (s1_.2 < (a0.Ops.length:Int))) (decide (0≤s1_.1)) false) (((Zx (Xr a0 s1_) (s1_.1,0)).bind fun (z21:Int)=>cond (decide (0≤z21)) ((Xd a0.Ops s1_.2).bind fun x22=>(Qa x22.E (IntKind.i64.wrap (a1 - 1)) z21).bind fun y24=>some y24) (some z21)).bind fun (z11:Int)=>some (.inl (z11,(IntKind.i64.wrap (s1_.2+1))))) (some (.inr s1_.1))
noncomputable def X0 (Qa:(Zh→Int→Int→Option Int)) (a0:Zh) (a1:Int) (a2:Int):Option Int :=
 cond (cond (a1 == 0) true (decide ((IntKind.i64.wrap ((IntKind.i64.wrap ((IntKind.i64.wrap (a2 - 1)) - (a0.Words.length:Int))) - (a0.Ops.length:Int))) < 0))) (some (-1)) ((Qu a0.Old 80 (IntKind.i64.wrap ((IntKind.i64.wrap ((IntKind.i64.wrap (a2 - 1)) - (a0.Words.length:Int))) - (a0.Ops.length:Int)))).bind fun y2=>(cond (decide (0≤y2)) ((Qu a0.New 80 y2).bind fun y4=>some y4) (some y2)).bind fun (z3:Int)=>(Zx (Xp Qa a0 a1) (z3,0)).bind fun (z10:Int)=>(Zx (Xq Qa a0 a1) (z10,0)).bind fun (z27:Int)=>some z27)
noncomputable def Z8:Nat→(Zh→Int→Int→Option Int)
 | 0=>(fun _ _ _=>none)
 | k+1=>X0 ((Z8 k))
noncomputable def Zba (a0:Zh) (a1:Int) (a2:Int):Option Int:=lim fun k=>(Z8 k) a0 a1 a2
noncomputable def Jr (a0:Zh):Option Bool :=
 (Zba a0 80 3000).bind fun y2=>some (decide (0≤y2))
noncomputable def J4 (a0:Za):Option Bool :=
 some (cond (a0.Kind == 0) ((IntKind.i64.wrap ((a0.Words.length:Int)+(a0.Kids.length:Int))) == 0) false)
noncomputable def V1 (s0_:(Int×Int×(Arr Int 8))):Option ((Int×Int×(Arr Int 8)) ⊕ (Arr Int 8)) :=
 cond (decide (s0_.2.1 < 8)) ((Xd s0_.2.2.1 s0_.2.1).bind fun x15=>some (.inl ((IntKind.u64.wrap (Int.tdiv s0_.1 256)),(IntKind.i64.wrap (s0_.2.1+1)),(Arr.put s0_.2.2 s0_.2.1 (IntKind.u8.wrap (Int.tmod s0_.1 256)))))) (some (.inr s0_.2.2))
noncomputable def V4 (a0:Int):Option (Arr Int 8) :=
 ((some (⟨[0,0,0,0,0,0,0,0],rfl⟩:(Arr Int 8)))).bind fun y3=>((some (⟨[0,0,0,0,0,0,0,0],rfl⟩:(Arr Int 8)))).bind fun y9=>(Zx (V1) (a0,0,y9)).bind fun (z18:(Arr Int 8))=>some z18
noncomputable def Kb (a1:Int) (s0_:(Int×Int)):Option ((Int×Int) ⊕ Int) :=
 cond (decide (s0_.2 < a1)) (some (.inl ((IntKind.u8.wrap (Int.tdiv s0_.1 2)),(IntKind.i64.wrap (s0_.2+1))))) (some (.inr s0_.1))
noncomputable def Zac (a0:Int) (a1:Int):Option Bool :=
 (Zx (Kb a1) (a0,0)).bind fun (z2:Int)=>some ((Int.tmod z2 2) == 1)
noncomputable def Zad (a0:(List Int)) (a1:Int) (s0_:(Int×Int)):Option ((Int×Int) ⊕ Int) :=
 cond (decide (0≤s0_.2)) ((Xd a0 (IntKind.i64.wrap (a1+s0_.2))).bind fun x1=>some (.inl ((IntKind.u64.wrap ((IntKind.u64.wrap (s0_.1 * 256))+(IntKind.u64.wrap x1))),(IntKind.i64.wrap (s0_.2 - 1))))) (some (.inr s0_.1))
noncomputable def Zgj (a0:(List Int)) (a1:Int):Option Int :=
 (Zx (Zad a0 a1) (0,7)).bind fun (z3:Int)=>some z3
noncomputable def Gb (a2:Int) (y9:(Arr Int 8)) (s0_:(Int×(Arr Int 8))):Option ((Int×(Arr Int 8)) ⊕ (Arr Int 8)) :=
 cond (decide (s0_.1 < 8)) (((Zac a2 s0_.1).bind fun y17=>cond y17 ((Xd y9.1 s0_.1).bind fun x18=>(Xd s0_.2.1 s0_.1).bind fun x19=>some (Arr.put s0_.2 s0_.1 x18)) (some s0_.2)).bind fun (z15:(Arr Int 8))=>some (.inl ((IntKind.i64.wrap (s0_.1+1)),z15))) (some (.inr s0_.2))
noncomputable def Zcw (a0:Int) (a1:Int) (a2:Int):Option Int :=
 (V4 a0).bind fun y8=>(V4 a1).bind fun y9=>((some (⟨[0,0,0,0,0,0,0,0],rfl⟩:(Arr Int 8)))).bind fun y10=>(Zx (Gb a2 y9) (0,y8)).bind fun (z23:(Arr Int 8))=>(Zgj z23.1 0).bind fun y29=>some y29
noncomputable def Vo (a0:Int) (a1:Int):Option Bool :=
 (Zcw a0 0 a1).bind fun y2=>some (y2 == 0)
noncomputable def Uv (a0:Zh):Option Bool :=
 (cond (a0.Kind == 0) ((J4 a0.Old).bind fun y6=>cond y6 ((J4 a0.New).bind fun y7=>some (cond (cond (cond (cond (a0.Kind == 0) y6 false) y7 false) ((IntKind.i64.wrap ((IntKind.i64.wrap ((a0.Words.length:Int)+(a0.Kids.length:Int)))+(a0.Ops.length:Int))) == 0) false) (a0.List_ == 0) false)) (some false)) (some false)).bind fun (z3:Bool)=>some z3
noncomputable def K4 (a0:Zh) (s0_:(Int×Int×Int)):Option ((Int×Int×Int) ⊕ (Int×Int)) :=
 cond (decide (s0_.2.2 < (a0.Ops.length:Int))) (((Xd a0.Ops s0_.2.2).bind fun x3=>(cond (x3.Kind == 3) (some 1) (some (IntKind.i64.wrap (x3.N+(x3.L.length:Int))))).bind fun (z4:Int)=>(cond (x3.Kind != 2) (some (IntKind.i64.wrap (s0_.1+z4))) (some s0_.1)).bind fun (z6:Int)=>(cond (x3.Kind != 1) (some (IntKind.i64.wrap (s0_.2.1+z4))) (some s0_.2.1)).bind fun (z8:Int)=>(cond (decide (1048576 < z6)) (some 1048576) (some z6)).bind fun (z10:Int)=>cond (decide (1048576 < z8)) (some (z10,1048576)) (some (z10,z8))).bind fun (z1:(Int×Int))=>some (.inl (z1.1,z1.2,(IntKind.i64.wrap (s0_.2.2+1))))) (some (.inr (s0_.1,s0_.2.1)))
noncomputable def K3 (a0:Zh):Option (Int×Int) :=
 (Zx (K4 a0) (0,0,0)).bind fun (z14:(Int×Int))=>some (z14.1,z14.2)
noncomputable def J8 (a0:Zh) (s0_:(Int×Int)):Option ((Int×Int) ⊕ (Unit ⊕ Unit)) :=
 cond (decide (s0_.2 < (a0.Words.length:Int))) ((Xd a0.Words s0_.2).bind fun x19=>(cond (decide (x19.At≤s0_.1)) (some true) (cond (decide (65534 < x19.At)) (some true) (cond (x19.Mask == 0) (some true) ((Vo x19.Old x19.Mask).bind fun y25=>cond y25 ((Vo x19.New x19.Mask).bind fun y26=>some (cond (cond (cond (cond (decide (x19.At≤s0_.1)) true (decide (65534 < x19.At))) true (x19.Mask == 0)) true (!y25)) true (!y26))) (some true))))).bind fun (z22:Bool)=>cond z22 (some (.inr (.inl ()))) (some (.inl (x19.At,(IntKind.i64.wrap (s0_.2+1)))))) (some (.inr (.inr ())))
noncomputable def J9 (Xk:(Zh→Int→Option Bool)) (a0:Zh) (a1:Int) (s1_:(Int×Int)):Option ((Int×Int) ⊕ (Unit ⊕ Unit)) :=
 cond (decide (s1_.2 < (a0.Kids.length:Int))) ((Xd a0.Kids s1_.2).bind fun x35=>(cond (decide (x35.At≤s1_.1)) (some true) (cond (decide (65534 < x35.At)) (some true) (cond (x35.E.Kind == 0) (some true) ((Xk x35.E (IntKind.i64.wrap (a1 - 1))).bind fun y39=>some (cond (cond (cond (decide (x35.At≤s1_.1)) true (decide (65534 < x35.At))) true (x35.E.Kind == 0)) true (!y39)))))).bind fun (z37:Bool)=>cond z37 (some (.inr (.inl ()))) (some (.inl (x35.At,(IntKind.i64.wrap (s1_.2+1)))))) (some (.inr (.inr ())))
noncomputable def Q9 (Qh:(Int→Zt→Int→Option Bool)) (a0:Zh) (a1:Int) (s2_:Int):Option (Int ⊕ (Unit ⊕ Unit)) :=
 cond (decide (s2_ < (a0.Ops.length:Int))) ((Xd a0.Ops s2_).bind fun x48=>(Qh a0.List_ x48 (IntKind.i64.wrap (a1 - 1))).bind fun y49=>cond (!y49) (some (.inr (.inl ()))) (some (.inl (IntKind.i64.wrap (s2_+1))))) (some (.inr (.inr ())))
noncomputable def G0 (Xk:(Zh→Int→Option Bool)) (Qh:(Int→Zt→Int→Option Bool)) (a0:Zh) (a1:Int):Option Bool :=
 cond (cond (cond (a1 == 0) true (decide (a0.Kind < 0))) true (decide (3 < a0.Kind))) (some false) ((cond (a0.Kind != 1) ((J4 a0.Old).bind fun y6=>cond y6 ((J4 a0.New).bind fun y7=>some (cond (cond (cond (a0.Kind != 1) (!(cond y6 y7 false)) false) true (cond (a0.Kind != 2) (decide (0 < (IntKind.i64.wrap ((a0.Words.length:Int)+(a0.Kids.length:Int))))) false)) true (cond (a0.Kind != 3) (cond (a0.List_ != 0) true (decide (0 < (a0.Ops.length:Int)))) false))) (some true)) (some (cond (cond (a0.Kind != 2) (decide (0 < (IntKind.i64.wrap ((a0.Words.length:Int)+(a0.Kids.length:Int))))) false) true (cond (a0.Kind != 3) (cond (a0.List_ != 0) true (decide (0 < (a0.Ops.length:Int)))) false)))).bind fun (z3:Bool)=>cond z3 (some false) (cond (a0.Kind == 1) (((V5 a0.Old 64).bind fun y15=>cond y15 ((V5 a0.New 64).bind fun y16=>some (cond (cond (cond y15 y16 false) (a0.Old.Kind != 10) false) (a0.New.Kind != 10) false)) (some false)).bind fun (z12:Bool)=>some z12) ((Zx (J8 a0) ((-1),0)).bind fun (z33:(Unit ⊕ Unit))=>match z33 with | .inl z33=>some false | .inr z33=>(Zx (J9 Xk a0 a1) ((-1),0)).bind fun (z45:(Unit ⊕ Unit))=>match z45 with | .inl z45=>some false | .inr z45=>cond (cond (a0.Kind == 3) (cond (decide (a0.List_ < 2)) true (decide (9 < a0.List_))) false) (some false) ((Zx (Q9 Qh a0 a1) 0).bind fun (z52:(Unit ⊕ Unit))=>match z52 with | .inl z52=>some false | .inr z52=>(K3 a0).bind fun y54=>some (cond (decide (y54.1 < 1048576)) (decide (y54.2 < 1048576)) false)))))
noncomputable def G3 (a0:Int) (a1:Zt) (s0_:Int):Option (Int ⊕ (Unit ⊕ Unit)) :=
 cond (decide (s0_ < (a1.L.length:Int))) ((Zka a1.L s0_ (IntKind.i64.wrap (s0_+1))).bind fun l10=>(V5 (⟨a0,[],l10⟩:Za) 64).bind fun y11=>cond (!y11) (some (.inr (.inl ()))) (some (.inl (IntKind.i64.wrap (s0_+1))))) (some (.inr (.inr ())))
noncomputable def Zdr (Xk:(Zh→Int→Option Bool)) (Qh:(Int→Zt→Int→Option Bool)) (a0:Int) (a1:Zt) (a2:Int):Option Bool :=
 cond (a1.Kind == 0) ((cond (decide (1≤a1.N)) (cond (decide (a1.N≤1048576)) (cond ((a1.L.length:Int) == 0) ((Uv a1.E).bind fun y4=>some (cond (cond (cond (decide (1≤a1.N)) (decide (a1.N≤1048576)) false) ((a1.L.length:Int) == 0) false) y4 false)) (some false)) (some false)) (some false)).bind fun (z2:Bool)=>some z2) (cond (cond (cond (a1.N != 0) true (decide (a1.Kind < 0))) true (decide (3 < a1.Kind))) (some false) (cond (decide (a1.Kind < 3)) ((Zx (G3 a0 a1) 0).bind fun (z14:(Unit ⊕ Unit))=>match z14 with | .inl z14=>some false | .inr z14=>(cond (decide (0 < (a1.L.length:Int))) ((Uv a1.E).bind fun y18=>some (cond (decide (0 < (a1.L.length:Int))) y18 false)) (some false)).bind fun (z16:Bool)=>some z16) ((cond (decide (0 < (a1.L.length:Int))) (some true) (cond (a1.E.Kind == 0) (some true) (cond (decide (a0≤7)) (some true) ((Xk a1.E a2).bind fun y23=>some (cond (cond (cond (decide (0 < (a1.L.length:Int))) true (a1.E.Kind == 0)) true (decide (a0≤7))) true (!y23)))))).bind fun (z21:Bool)=>cond z21 (some false) (some (cond (cond (a0 == 8) true (a1.E.Kind == 2)) true (cond (cond (a1.E.Kind == 1) (a1.E.Old.Kind == 1) false) (a1.E.New.Kind == 1) false))))))
noncomputable def Yw:Nat→((Zh→Int→Option Bool)×(Int→Zt→Int→Option Bool))
 | 0=>((fun _ _=>none),(fun _ _ _=>none))
 | k+1=>(G0 ((Yw k).1) ((Yw k).2),Zdr ((Yw k).1) ((Yw k).2))
noncomputable def Zgu (a0:Zh) (a1:Int):Option Bool:=lim fun k=>(Yw k).1 a0 a1
noncomputable def Vy (X2:(Zh→Option Bool)) (a0:Zh) (s0_:Int):Option (Int ⊕ (Unit ⊕ Unit)) :=
 cond (decide (s0_ < (a0.Kids.length:Int))) ((Xd a0.Kids s0_).bind fun x6=>(X2 x6.E).bind fun y8=>cond (!y8) (some (.inr (.inl ()))) (some (.inl (IntKind.i64.wrap (s0_+1))))) (some (.inr (.inr ())))
noncomputable def Vz (X2:(Zh→Option Bool)) (a0:Zh) (s1_:Int):Option (Int ⊕ (Unit ⊕ Unit)) :=
 cond (decide (s1_ < (a0.Ops.length:Int))) ((Xd a0.Ops s1_).bind fun x15=>(X2 x15.E).bind fun y17=>cond (!y17) (some (.inr (.inl ()))) (some (.inl (IntKind.i64.wrap (s1_+1))))) (some (.inr (.inr ())))
noncomputable def Gz (X2:(Zh→Option Bool)) (a0:Zh):Option Bool :=
 (K3 a0).bind fun y2=>cond (cond (decide (2000 < y2.1)) true (decide (2000 < y2.2))) (some false) ((Zx (Vy X2 a0) 0).bind fun (z11:(Unit ⊕ Unit))=>match z11 with | .inl z11=>some false | .inr z11=>(Zx (Vz X2 a0) 0).bind fun (z20:(Unit ⊕ Unit))=>match z20 with | .inl z20=>some false | .inr z20=>some true)
noncomputable def Jw:Nat→(Zh→Option Bool)
 | 0=>(fun _=>none)
 | k+1=>Gz ((Jw k))
noncomputable def Zgt (a0:Zh):Option Bool:=lim fun k=>(Jw k) a0
noncomputable def Vg (a0:Zh):Option Bool :=
 ((Jr a0).bind fun y8=>cond y8 ((Zgu a0 64).bind fun y9=>cond y9 ((Zgt a0).bind fun y10=>some (cond (cond y8 y9 false) y10 false)) (some false)) (some false)).bind fun (z4:Bool)=>some z4
noncomputable def Gc (a0:(List Int)) (s0_:Int):Option (Int ⊕ Int) :=
 (cond (decide (0 < s0_)) ((Xd a0 (IntKind.i64.wrap (s0_ - 1))).bind fun x4=>some (cond (decide (0 < s0_)) (x4 == 0) false)) (some false)).bind fun (z2:Bool)=>cond z2 (some (.inl (IntKind.i64.wrap (s0_ - 1)))) (some (.inr s0_))
noncomputable def Zcz (a0:(List Int)):Option (List Int) :=
 (Zx (Gc a0) (a0.length:Int)).bind fun (z7:Int)=>(Zka a0 0 z7).bind fun l9=>some l9
noncomputable def Zaf (a0:(List Za)) (s0_:Int):Option (Int ⊕ Int) :=
 (cond (decide (0 < s0_)) ((Xd a0 (IntKind.i64.wrap (s0_ - 1))).bind fun x6=>some (cond (decide (0 < s0_)) (x6.Kind == 0) false)) (some false)).bind fun (z3:Bool)=>cond z3 (some (.inl (IntKind.i64.wrap (s0_ - 1)))) (some (.inr s0_))
noncomputable def Zd1 (a0:(List Za)):Option (List Za) :=
 (Zx (Zaf a0) (a0.length:Int)).bind fun (z10:Int)=>(Zka a0 0 z10).bind fun l12=>some l12
noncomputable def Zcq (Zc8:(Za→Option Za)) (z1:((List Int)×(List Za))) (s0_:(Int×(List Za))):Option ((Int×(List Za)) ⊕ (List Za)) :=
 cond (decide (s0_.1 < (z1.2.length:Int))) ((Xd z1.2 s0_.1).bind fun x9=>(Zc8 x9).bind fun y10=>(Xd s0_.2 s0_.1).bind fun x11=>some (.inl ((IntKind.i64.wrap (s0_.1+1)),(Jo s0_.2 s0_.1 y10)))) (some (.inr s0_.2))
noncomputable def Zjn (Zc8:(Za→Option Za)) (a0:Za):Option Za :=
 cond (a0.Kind == 0) (some (⟨0,[],[]⟩:Za)) ((cond (a0.Kind == 1) ((Zcz a0.Words).bind fun y2=>(Zd1 a0.Kids).bind fun y3=>some (y2,y3)) (some (a0.Words,a0.Kids))).bind fun (z1:((List Int)×(List Za)))=>(cond (decide (0 < (z1.2.length:Int))) ((Zke 56 (z1.2.length:Int) (⟨(0:Int),[],[]⟩:Za)).bind fun l6=>some l6) (some ([]:List Za))).bind fun (z5:(List Za))=>(Zx (Zcq Zc8 z1) (0,z5)).bind fun (z14:(List Za))=>some (⟨a0.Kind,z1.1,z14⟩:Za))
noncomputable def Gf:Nat→(Za→Option Za)
 | 0=>(fun _=>none)
 | k+1=>Zjn ((Gf k))
noncomputable def Zl9 (a0:Za):Option Za:=lim fun k=>(Gf k) a0
noncomputable def Zl8 (a0:Int):Option Bool :=
 some (cond (decide (2≤a0)) (decide (a0≤7)) false)
noncomputable def Gh (a0:Int):Option (Int×Bool) :=
 ((some (⟨[0,1,8,16,32,64],rfl⟩:(Arr Int 6)))).bind fun y6=>((some (⟨[0,0,0,0,0,0],rfl⟩:(Arr Int 6)))).bind fun y8=>cond (cond (decide (a0 < 0)) true (decide (6≤a0))) (some (0,false)) ((Xd y6.1 a0).bind fun x12=>some (x12,true))
noncomputable def Zg7 (a0:Int) (a1:Int):Option Int :=
 (Gh a0).bind fun y2=>cond (cond (cond (!y2.2) true (decide (a1 < 0))) true (decide (1099511627776 < a1))) (some 0) (some (IntKind.i64.wrap (Int.tdiv (IntKind.i64.wrap ((IntKind.i64.wrap (a1 * y2.1))+63)) 64)))
noncomputable def Zd0 (a0:Za) (s0_:(Int×Int×Int)):Option ((Int×Int×Int) ⊕ (Int×Int)) :=
 cond (decide (s0_.2.2 < (a0.Kids.length:Int))) ((Xd a0.Kids s0_.2.2).bind fun x2=>some (.inl ((if s0_.1 < (x2.Words.length:Int) then (x2.Words.length:Int) else s0_.1),(if s0_.2.1 < (x2.Kids.length:Int) then (x2.Kids.length:Int) else s0_.2.1),(IntKind.i64.wrap (s0_.2.2+1))))) (some (.inr (s0_.1,s0_.2.1)))
noncomputable def Zdf (a0:Za):Option (Int×Int) :=
 (Zx (Zd0 a0) (0,0,0)).bind fun (z4:(Int×Int))=>some (z4.1,z4.2)
noncomputable def Zcr (Je:((List Za)→Option Int)) (a0:Za) (s0_:(Int×Int)):Option ((Int×Int) ⊕ Int) :=
 cond (decide (s0_.2 < (a0.Kids.length:Int))) ((Xd a0.Kids s0_.2).bind fun x12=>(Je x12.Kids).bind fun y13=>some (.inl ((IntKind.i64.wrap (s0_.1+y13)),(IntKind.i64.wrap (s0_.2+1))))) (some (.inr s0_.1))
noncomputable def Zjo (Vr:(Za→Option Int)) (Je:((List Za)→Option Int)) (a0:Za):Option Int :=
 cond (a0.Kind == 1) ((Je a0.Kids).bind fun y2=>some (IntKind.i64.wrap ((IntKind.i64.wrap ((a0.Words.length:Int)+(a0.Kids.length:Int)))+y2))) ((Zl8 a0.Kind).bind fun y4=>cond y4 ((Zg7 (IntKind.i64.wrap (a0.Kind - 2)) (a0.Kids.length:Int)).bind fun y6=>some y6) (cond (a0.Kind == 8) ((Je a0.Kids).bind fun y8=>some (IntKind.i64.wrap ((a0.Kids.length:Int)+y8))) (cond (a0.Kind == 9) ((Zdf a0).bind fun y10=>(Zx (Zcr Je a0) ((IntKind.i64.wrap (1+(IntKind.i64.wrap ((a0.Kids.length:Int) * (IntKind.i64.wrap (y10.1+y10.2)))))),0)).bind fun (z15:Int)=>some z15) (some 0))))
noncomputable def Zay (Vr:(Za→Option Int)) (a0:(List Za)) (s0_:(Int×Int)):Option ((Int×Int) ⊕ Int) :=
 cond (decide (s0_.2 < (a0.length:Int))) ((Xd a0 s0_.2).bind fun x2=>(Vr x2).bind fun y3=>some (.inl ((IntKind.i64.wrap (s0_.1+y3)),(IntKind.i64.wrap (s0_.2+1))))) (some (.inr s0_.1))
noncomputable def Zht (Vr:(Za→Option Int)) (Je:((List Za)→Option Int)) (a0:(List Za)):Option Int :=
 (Zx (Zay Vr a0) (0,0)).bind fun (z5:Int)=>some z5
noncomputable def Xy:Nat→((Za→Option Int)×((List Za)→Option Int))
 | 0=>((fun _=>none),(fun _=>none))
 | k+1=>(Zjo ((Xy k).1) ((Xy k).2),Zht ((Xy k).1) ((Xy k).2))
noncomputable def Zqa (a0:Za):Option Int:=lim fun k=>(Xy k).1 a0
noncomputable def Zg5 (a0:Za):Option Int :=
 (Zl9 a0).bind fun y3=>(Zqa y3).bind fun y4=>some y4
structure Z3 where
 something:Bool
 size:Int
noncomputable def Ud (a0:Za):Option Z3 :=
 (Zg5 a0).bind fun y2=>some (⟨(a0.Kind != 0),y2⟩:Z3)
noncomputable def Jx (a1:(List Z3)) (s0_:(Int×Int×Int)):Option ((Int×Int×Int) ⊕ (Int×Int)) :=
 cond (decide (s0_.2.2 < (a1.length:Int))) ((Xd a1 s0_.2.2).bind fun x2=>(cond x2.something (some (IntKind.i64.wrap (s0_.2.2+1))) (some s0_.1)).bind fun (z3:Int)=>some (.inl (z3,(IntKind.i64.wrap (s0_.2.1+x2.size)),(IntKind.i64.wrap (s0_.2.2+1))))) (some (.inr (s0_.1,s0_.2.1)))
noncomputable def Qn (a0:Int) (a1:(List Z3)):Option Z3 :=
 (Zx (Jx a1) (0,a0,0)).bind fun (z6:(Int×Int))=>some (⟨true,(IntKind.i64.wrap (z6.2+z6.1))⟩:Z3)
noncomputable def Zgv (a0:Int) (a1:Int) (a2:Int) (a3:Int):Option Z3 :=
 cond (a0 == 0) (some (⟨false,0⟩:Z3)) (some (⟨true,(IntKind.i64.wrap ((IntKind.i64.wrap (1+(IntKind.i64.wrap (a0 * (IntKind.i64.wrap (a1+a2))))))+a3))⟩:Z3))
noncomputable def Zbb (a0:(List Z6)) (s0_:(Int×Int)):Option ((Int×Int) ⊕ Int) :=
 cond (decide (s0_.2 < (a0.length:Int))) (((Xd a0 s0_.2).bind fun x3=>cond (x3.New != 0) (some 3) (cond (x3.Old != 0) (some (if s0_.1 < 2 then 2 else s0_.1)) (some s0_.1))).bind fun (z1:Int)=>some (.inl (z1,(IntKind.i64.wrap (s0_.2+1))))) (some (.inr s0_.1))
noncomputable def Ze5 (a0:(List Z6)):Option Z3 :=
 (Zx (Zbb a0) (1,0)).bind fun (z7:Int)=>(Zgv (a0.length:Int) z7 0 0).bind fun y9=>some y9
noncomputable def Zf5 (Xn:(Zh→Option Z3)) (Qq:((List Zn)→Option Z3)) (Jd:(Int→(List Zt)→Option Z3)) (a0:Zh):Option Z3 :=
 cond (a0.Kind == 1) ((Ud a0.Old).bind fun y4=>(Ud a0.New).bind fun y5=>(Qn 1 ([y4,y5]:List Z3)).bind fun y6=>some y6) (cond (a0.Kind == 2) ((Ze5 a0.Words).bind fun y10=>(Qq a0.Kids).bind fun y11=>(Qn 1 ([y10,y11]:List Z3)).bind fun y12=>some y12) (cond (a0.Kind == 3) ((Jd a0.List_ a0.Ops).bind fun y15=>(Qn 1 ([y15]:List Z3)).bind fun y16=>some y16) (some (⟨false,0⟩:Z3))))
noncomputable def Gs (Xn:(Zh→Option Z3)) (a0:(List Zn)) (s0_:(Int×Int×Int)):Option ((Int×Int×Int) ⊕ (Int×Int)) :=
 cond (decide (s0_.2.2 < (a0.length:Int))) ((Xd a0 s0_.2.2).bind fun x2=>(cond (decide (0 < x2.At)) (some 1) (some s0_.1)).bind fun (z3:Int)=>(Xn x2.E).bind fun y5=>some (.inl (z3,(IntKind.i64.wrap (s0_.2.1+y5.size)),(IntKind.i64.wrap (s0_.2.2+1))))) (some (.inr (s0_.1,s0_.2.1)))
noncomputable def Zf6 (Xn:(Zh→Option Z3)) (Qq:((List Zn)→Option Z3)) (Jd:(Int→(List Zt)→Option Z3)) (a0:(List Zn)):Option Z3 :=
 (Zx (Gs Xn a0) (0,0,0)).bind fun (z7:(Int×Int))=>(Zgv (a0.length:Int) z7.1 1 z7.2).bind fun y9=>some y9
noncomputable def Zax (Xn:(Zh→Option Z3)) (a0:Int) (a1:(List Zt)) (s0_:(Int×Int×Int)):Option ((Int×Int×Int) ⊕ (Int×Int)) :=
 cond (decide (s0_.2.2 < (a1.length:Int))) ((Xd a1 s0_.2.2).bind fun x2=>(Xn x2.E).bind fun y4=>(cond (cond (x2.Kind == 1) true (x2.Kind == 2)) ((Ud (⟨a0,[],x2.L⟩:Za)).bind fun y6=>some (y6.something,y6.size)) (some (y4.something,y4.size))).bind fun (z5:(Bool×Int))=>(cond z5.1 (some 1) (some s0_.1)).bind fun (z8:Int)=>some (.inl (z8,(IntKind.i64.wrap (s0_.2.1+z5.2)),(IntKind.i64.wrap (s0_.2.2+1))))) (some (.inr (s0_.1,s0_.2.1)))
noncomputable def Zhn (Xn:(Zh→Option Z3)) (Qq:((List Zn)→Option Z3)) (Jd:(Int→(List Zt)→Option Z3)) (a0:Int) (a1:(List Zt)):Option Z3 :=
 (Zx (Zax Xn a0 a1) (0,0,0)).bind fun (z11:(Int×Int))=>(Zgv (a1.length:Int) 1 z11.1 z11.2).bind fun y13=>some y13
noncomputable def Yb:Nat→((Zh→Option Z3)×((List Zn)→Option Z3)×(Int→(List Zt)→Option Z3))
 | 0=>((fun _=>none),(fun _=>none),(fun _ _=>none))
 | k+1=>(Zf5 ((Yb k).1) ((Yb k).2.1) ((Yb k).2.2),Zf6 ((Yb k).1) ((Yb k).2.1) ((Yb k).2.2),Zhn ((Yb k).1) ((Yb k).2.1) ((Yb k).2.2))
noncomputable def Zmq (a0:Zh):Option Z3:=lim fun k=>(Yb k).1 a0
noncomputable def Zdb (a0:Zh):Option Int :=
 (Zmq a0).bind fun y2=>some (IntKind.i64.wrap (1+y2.size))
noncomputable def Kt :Option Bool :=
 ((Zdb (⟨0,⟨0,[],[]⟩,⟨0,[],[]⟩,[],[],0,[]⟩:Zh)).bind fun y6=>cond (y6 == 1) ((Zdb (⟨1,⟨0,[],[]⟩,⟨0,[],[]⟩,[],[],0,[]⟩:Zh)).bind fun y7=>some (cond (y6 == 1) (y7 == 2) false)) (some false)).bind fun (z3:Bool)=>some z3
noncomputable def Gv (a0:Za):Option Bool :=
 some (cond (a0.Kind != 0) true (decide (0 < (IntKind.i64.wrap ((a0.Words.length:Int)+(a0.Kids.length:Int))))))
noncomputable def Uo (a0:Bool) (a1:Bool) (a2:Bool) (a3:Zh):Option Bool :=
 (cond a0 ((Gv a3.Old).bind fun y6=>cond y6 (some false) ((Gv a3.New).bind fun y7=>some (cond (cond (!(cond a0 (cond y6 true y7) false)) (!(cond a1 (decide (0 < (IntKind.i64.wrap ((a3.Words.length:Int)+(a3.Kids.length:Int))))) false)) false) (!(cond a2 (cond (a3.List_ != 0) true (decide (0 < (a3.Ops.length:Int)))) false)) false))) (some (cond (!(cond a1 (decide (0 < (IntKind.i64.wrap ((a3.Words.length:Int)+(a3.Kids.length:Int))))) false)) (!(cond a2 (cond (a3.List_ != 0) true (decide (0 < (a3.Ops.length:Int)))) false)) false))).bind fun (z3:Bool)=>some z3
noncomputable def Zg4 (a0:Int):Option Bool :=
 some (cond (decide (2≤a0)) (decide (a0≤9)) false)
noncomputable def Uq (a0:(List Za)) (s0_:Int):Option (Int ⊕ (Unit ⊕ Unit)) :=
 cond (decide (s0_ < (a0.length:Int))) ((Xd a0 s0_).bind fun x2=>cond (x2.Kind != 1) (some (.inr (.inl ()))) (some (.inl (IntKind.i64.wrap (s0_+1))))) (some (.inr (.inr ())))
noncomputable def Zbf (a0:(List Za)):Option Bool :=
 (Zx (Uq a0) 0).bind fun (z5:(Unit ⊕ Unit))=>match z5 with | .inl z5=>some false | .inr z5=>some true
noncomputable def Zg6 (a0:Int) (a1:Int):Option Bool :=
 (Gh a0).bind fun y2=>(cond y2.2 ((Vs (0≤y2.1)).bind fun u6=>some (cond y2.2 ((Int.fdiv a1 (2 ^ min (Int.toNat y2.1) 64)) == 0) false)) (some false)).bind fun (z4:Bool)=>some z4
noncomputable def Zhr (Xu:(Za→Option Bool)) (Xo:(Za→Int→Option Bool)) (Y5:((List Za)→Int→Option Bool)) (Xa:((List Za)→Int→Option Bool)) (a0:Za):Option Bool :=
 cond (a0.Kind == 10) (some (cond ((a0.Words.length:Int) == 1) ((a0.Kids.length:Int) == 0) false)) ((Xo a0 64).bind fun y2=>some y2)
noncomputable def Zhs (Xu:(Za→Option Bool)) (Xo:(Za→Int→Option Bool)) (Y5:((List Za)→Int→Option Bool)) (Xa:((List Za)→Int→Option Bool)) (a0:Za) (a1:Int):Option Bool :=
 cond (a0.Kind == 0) (some (cond ((a0.Words.length:Int) == 0) ((a0.Kids.length:Int) == 0) false)) (cond (a1 == 0) (some false) (cond (a0.Kind == 1) ((cond (decide ((a0.Words.length:Int) < 65536)) (cond (decide ((a0.Kids.length:Int) < 65536)) ((Y5 a0.Kids (IntKind.i64.wrap (a1 - 1))).bind fun y4=>some (cond (cond (decide ((a0.Words.length:Int) < 65536)) (decide ((a0.Kids.length:Int) < 65536)) false) y4 false)) (some false)) (some false)).bind fun (z2:Bool)=>some z2) ((Zg4 a0.Kind).bind fun y8=>cond (cond (cond (!y8) true (decide (0 < (a0.Words.length:Int)))) true (decide (1048576≤(a0.Kids.length:Int)))) (some false) (cond (a0.Kind == 8) ((Y5 a0.Kids (IntKind.i64.wrap (a1 - 1))).bind fun y10=>some y10) (cond (a0.Kind == 9) (((Zbf a0.Kids).bind fun y16=>cond y16 ((Y5 a0.Kids (IntKind.i64.wrap (a1 - 1))).bind fun y17=>some (cond y16 y17 false)) (some false)).bind fun (z13:Bool)=>some z13) ((Xa a0.Kids (IntKind.i64.wrap (a0.Kind - 2))).bind fun y20=>some y20))))))
noncomputable def G8 (Xo:(Za→Int→Option Bool)) (a0:(List Za)) (a1:Int) (s0_:Int):Option (Int ⊕ (Unit ⊕ Unit)) :=
 cond (decide (s0_ < (a0.length:Int))) ((Xd a0 s0_).bind fun x2=>(Xo x2 a1).bind fun y4=>cond (!y4) (some (.inr (.inl ()))) (some (.inl (IntKind.i64.wrap (s0_+1))))) (some (.inr (.inr ())))
noncomputable def Zdv (Xu:(Za→Option Bool)) (Xo:(Za→Int→Option Bool)) (Y5:((List Za)→Int→Option Bool)) (Xa:((List Za)→Int→Option Bool)) (a0:(List Za)) (a1:Int):Option Bool :=
 (Zx (G8 Xo a0 a1) 0).bind fun (z7:(Unit ⊕ Unit))=>match z7 with | .inl z7=>some false | .inr z7=>some true
noncomputable def G7 (Xu:(Za→Option Bool)) (a0:(List Za)) (a1:Int) (s0_:Int):Option (Int ⊕ (Unit ⊕ Unit)) :=
 cond (decide (s0_ < (a0.length:Int))) ((Xd a0 s0_).bind fun x2=>(cond (x2.Kind != 10) (some true) ((Xu x2).bind fun y10=>cond y10 ((Xd x2.Words 0).bind fun x11=>(Zg6 a1 x11).bind fun y12=>some (cond (cond (x2.Kind != 10) true (!y10)) true (!y12))) (some true))).bind fun (z6:Bool)=>cond z6 (some (.inr (.inl ()))) (some (.inl (IntKind.i64.wrap (s0_+1))))) (some (.inr (.inr ())))
noncomputable def Zdu (Xu:(Za→Option Bool)) (Xo:(Za→Int→Option Bool)) (Y5:((List Za)→Int→Option Bool)) (Xa:((List Za)→Int→Option Bool)) (a0:(List Za)) (a1:Int):Option Bool :=
 (Zx (G7 Xu a0 a1) 0).bind fun (z17:(Unit ⊕ Unit))=>match z17 with | .inl z17=>some false | .inr z17=>some true
noncomputable def Z5:Nat→((Za→Option Bool)×(Za→Int→Option Bool)×((List Za)→Int→Option Bool)×((List Za)→Int→Option Bool))
 | 0=>((fun _=>none),(fun _ _=>none),(fun _ _=>none),(fun _ _=>none))
 | k+1=>(Zhr ((Z5 k).1) ((Z5 k).2.1) ((Z5 k).2.2.1) ((Z5 k).2.2.2),Zhs ((Z5 k).1) ((Z5 k).2.1) ((Z5 k).2.2.1) ((Z5 k).2.2.2),Zdv ((Z5 k).1) ((Z5 k).2.1) ((Z5 k).2.2.1) ((Z5 k).2.2.2),Zdu ((Z5 k).1) ((Z5 k).2.1) ((Z5 k).2.2.1) ((Z5 k).2.2.2))
noncomputable def Zig (a0:Za):Option Bool:=lim fun k=>(Z5 k).1 a0
noncomputable def Zfk (a0:Za):Option Bool :=
 (cond (a0.Kind != 10) ((Zig a0).bind fun y4=>some (cond (a0.Kind != 10) y4 false)) (some false)).bind fun (z2:Bool)=>some z2
noncomputable def Zfa (a0:Int) (s0_:(Int×Int)):Option ((Int×Int) ⊕ Int) :=
 cond (decide (s0_.2 < 8)) (((Vs (0≤s0_.2)).bind fun u3=>cond ((IntKind.u8.wrap (Zc6 .u8 (Int.fdiv a0 (2 ^ min (Int.toNat s0_.2) 8)) 1)) == 1) ((Vs (0≤(IntKind.i64.wrap (8 * s0_.2)))).bind fun u4=>some (IntKind.u64.wrap (Ut .u64 s0_.1 (IntKind.u64.wrap (255 * 2 ^ min (Int.toNat (IntKind.i64.wrap (8 * s0_.2))) 64))))) (some s0_.1)).bind fun (z1:Int)=>some (.inl (z1,(IntKind.i64.wrap (s0_.2+1))))) (some (.inr s0_.1))
noncomputable def Zg8 (a0:Int):Option Int :=
 (Zx (Zfa a0) (0,0)).bind fun (z7:Int)=>some z7
noncomputable def Un (a0:(List Z6)) (s0_:(Int×Int)):Option ((Int×Int) ⊕ (Unit ⊕ Unit)) :=
 cond (decide (s0_.2 < (a0.length:Int))) ((Xd a0 s0_.2).bind fun x2=>(Zg8 x2.Mask).bind fun y4=>cond (cond (cond (cond (cond (decide (x2.At≤s0_.1)) true (decide (65534 < x2.At))) true (x2.Mask == 0)) true ((IntKind.u64.wrap (Zc6 .u64 x2.Old (IntKind.u64.wrap (Zpn .u64 (if IntKind.signed .u64=true then -1 else IntKind.max .u64) y4)))) != 0)) true ((IntKind.u64.wrap (Zc6 .u64 x2.New (IntKind.u64.wrap (Zpn .u64 (if IntKind.signed .u64=true then -1 else IntKind.max .u64) y4)))) != 0)) (some (.inr (.inl ()))) (some (.inl (x2.At,(IntKind.i64.wrap (s0_.2+1)))))) (some (.inr (.inr ())))
noncomputable def Zbd (a0:(List Z6)):Option Bool :=
 (Zx (Un a0) ((-1),0)).bind fun (z7:(Unit ⊕ Unit))=>match z7 with | .inl z7=>some false | .inr z7=>some true
noncomputable def Zdz (a0:Int) (a1:Zh):Option Bool :=
 cond (a0 == 8) (some (a1.Kind != 0)) (cond (a0 == 9) (some (cond (a1.Kind == 2) true (cond (cond (a1.Kind == 1) (a1.Old.Kind == 1) false) (a1.New.Kind == 1) false))) (some false))
noncomputable def Zcy (a0:Zt):Option Int :=
 cond (a0.Kind == 0) (some (if 1048576 < (if a0.N < 0 then 0 else a0.N) then 1048576 else (if a0.N < 0 then 0 else a0.N))) ((cond (a0.Kind == 1) (some (a0.Kind == 1)) (some (a0.Kind == 2))).bind fun (z1:Bool)=>cond z1 (some (a0.L.length:Int)) (cond (a0.Kind == 3) (some 1) (some 0)))
noncomputable def Zbc (a0:Zh) (s0_:(Int×Int×Int)):Option ((Int×Int×Int) ⊕ (Int×Int)) :=
 cond (decide (s0_.2.2 < (a0.Ops.length:Int))) (((Xd a0.Ops s0_.2.2).bind fun x3=>(cond (x3.Kind != 2) ((Zcy x3).bind fun y5=>some (if 1048576 < (IntKind.i64.wrap (s0_.1+y5)) then 1048576 else (IntKind.i64.wrap (s0_.1+y5)))) (some s0_.1)).bind fun (z4:Int)=>cond (x3.Kind != 1) ((Zcy x3).bind fun y7=>some (z4,(if 1048576 < (IntKind.i64.wrap (s0_.2.1+y7)) then 1048576 else (IntKind.i64.wrap (s0_.2.1+y7))))) (some (z4,s0_.2.1))).bind fun (z1:(Int×Int))=>some (.inl (z1.1,z1.2,(IntKind.i64.wrap (s0_.2.2+1))))) (some (.inr (s0_.1,s0_.2.1)))
noncomputable def Ze6 (a0:Zh):Option (Int×Int) :=
 (Zx (Zbc a0) (0,0,0)).bind fun (z10:(Int×Int))=>some (z10.1,z10.2)
noncomputable def Zho (Yy:(Zh→Option Bool)) (Yt:(Zh→Int→Option Bool)) (Yd:((List Zn)→Int→Option Bool)) (Yj:(Zh→Int→Option Bool)) (Yk:(Int→Zt→Int→Option Bool)) (Ya:(Bool→Bool→Bool→Zt→Option Bool)) (a0:Zh):Option Bool :=
 (Yt a0 64).bind fun y2=>some y2
noncomputable def Zhp (Yy:(Zh→Option Bool)) (Yt:(Zh→Int→Option Bool)) (Yd:((List Zn)→Int→Option Bool)) (Yj:(Zh→Int→Option Bool)) (Yk:(Int→Zt→Int→Option Bool)) (Ya:(Bool→Bool→Bool→Zt→Option Bool)) (a0:Zh) (a1:Int):Option Bool :=
 cond (a1 == 0) (some false) (cond (a0.Kind == 0) ((Uo true true true a0).bind fun y2=>some y2) (cond (a0.Kind == 1) (((Uo false true true a0).bind fun y10=>cond y10 ((Zfk a0.Old).bind fun y11=>cond y11 ((Zfk a0.New).bind fun y12=>some (cond (cond y10 y11 false) y12 false)) (some false)) (some false)).bind fun (z6:Bool)=>some z6) (cond (a0.Kind == 2) (((Uo true false true a0).bind fun y22=>cond y22 ((Zbd a0.Words).bind fun y23=>cond y23 ((Yd a0.Kids (IntKind.i64.wrap (a1 - 1))).bind fun y24=>some (cond (cond y22 y23 false) y24 false)) (some false)) (some false)).bind fun (z18:Bool)=>some z18) (cond (a0.Kind == 3) (((Uo true true false a0).bind fun y32=>cond y32 ((Yj a0 (IntKind.i64.wrap (a1 - 1))).bind fun y33=>some (cond y32 y33 false)) (some false)).bind fun (z29:Bool)=>some z29) (some false)))))
noncomputable def U8 (Yt:(Zh→Int→Option Bool)) (a0:(List Zn)) (a1:Int) (s0_:(Int×Int)):Option ((Int×Int) ⊕ (Unit ⊕ Unit)) :=
 cond (decide (s0_.2 < (a0.length:Int))) ((Xd a0 s0_.2).bind fun x2=>(cond (decide (x2.At≤s0_.1)) (some true) (cond (decide (65534 < x2.At)) (some true) (cond (x2.E.Kind == 0) (some true) ((Yt x2.E a1).bind fun y6=>some (cond (cond (cond (decide (x2.At≤s0_.1)) true (decide (65534 < x2.At))) true (x2.E.Kind == 0)) true (!y6)))))).bind fun (z4:Bool)=>cond z4 (some (.inr (.inl ()))) (some (.inl (x2.At,(IntKind.i64.wrap (s0_.2+1)))))) (some (.inr (.inr ())))
noncomputable def Zcn (Yy:(Zh→Option Bool)) (Yt:(Zh→Int→Option Bool)) (Yd:((List Zn)→Int→Option Bool)) (Yj:(Zh→Int→Option Bool)) (Yk:(Int→Zt→Int→Option Bool)) (Ya:(Bool→Bool→Bool→Zt→Option Bool)) (a0:(List Zn)) (a1:Int):Option Bool :=
 (Zx (U8 Yt a0 a1) ((-1),0)).bind fun (z12:(Unit ⊕ Unit))=>match z12 with | .inl z12=>some false | .inr z12=>some true
noncomputable def G4 (Yk:(Int→Zt→Int→Option Bool)) (a0:Zh) (a1:Int) (s0_:Int):Option (Int ⊕ (Unit ⊕ Unit)) :=
 cond (decide (s0_ < (a0.Ops.length:Int))) ((Xd a0.Ops s0_).bind fun x4=>(Yk a0.List_ x4 a1).bind fun y6=>cond (!y6) (some (.inr (.inl ()))) (some (.inl (IntKind.i64.wrap (s0_+1))))) (some (.inr (.inr ())))
noncomputable def Zds (Yy:(Zh→Option Bool)) (Yt:(Zh→Int→Option Bool)) (Yd:((List Zn)→Int→Option Bool)) (Yj:(Zh→Int→Option Bool)) (Yk:(Int→Zt→Int→Option Bool)) (Ya:(Bool→Bool→Bool→Zt→Option Bool)) (a0:Zh) (a1:Int):Option Bool :=
 (Zg4 a0.List_).bind fun y2=>cond (!y2) (some false) ((Zx (G4 Yk a0 a1) 0).bind fun (z9:(Unit ⊕ Unit))=>match z9 with | .inl z9=>some false | .inr z9=>(Ze6 a0).bind fun y11=>some (cond (decide (y11.1 < 1048576)) (decide (y11.2 < 1048576)) false))
noncomputable def Zey (Yy:(Zh→Option Bool)) (Yt:(Zh→Int→Option Bool)) (Yd:((List Zn)→Int→Option Bool)) (Yj:(Zh→Int→Option Bool)) (Yk:(Int→Zt→Int→Option Bool)) (Ya:(Bool→Bool→Bool→Zt→Option Bool)) (a0:Int) (a1:Zt) (a2:Int):Option Bool :=
 (cond (a1.Kind == 0) ((Ya false true true a1).bind fun y3=>some (.inr (.inl (cond (cond y3 (decide (1≤a1.N)) false) (decide (a1.N≤1048576)) false)))) (cond (a1.Kind == 1) (some (.inl ())) (cond (a1.Kind == 2) (some (.inl ())) (cond (a1.Kind == 3) (some (.inr (.inr (.inl ())))) (some (.inr (.inr (.inr ())))))))).bind fun (z1:(Unit ⊕ (Bool ⊕ (Unit ⊕ Unit))))=>match z1 with | .inl z1=>((Ya true false true a1).bind fun y13=>cond y13 (cond (decide (0 < (a1.L.length:Int))) ((Zig (⟨a0,[],a1.L⟩:Za)).bind fun y14=>some (cond (cond y13 (decide (0 < (a1.L.length:Int))) false) y14 false)) (some false)) (some false)).bind fun (z10:Bool)=>some z10 | .inr z1=>match z1 with | .inl z1=>some z1 | .inr z1=>match z1 with | .inl z1=>((Ya true true false a1).bind fun y24=>cond y24 ((Zdz a0 a1.E).bind fun y25=>cond y25 ((Yt a1.E a2).bind fun y26=>some (cond (cond y24 y25 false) y26 false)) (some false)) (some false)).bind fun (z20:Bool)=>some z20 | .inr z1=>some false
noncomputable def Zco (Yy:(Zh→Option Bool)) (Yt:(Zh→Int→Option Bool)) (Yd:((List Zn)→Int→Option Bool)) (Yj:(Zh→Int→Option Bool)) (Yk:(Int→Zt→Int→Option Bool)) (Ya:(Bool→Bool→Bool→Zt→Option Bool)) (a0:Bool) (a1:Bool) (a2:Bool) (a3:Zt):Option Bool :=
 (cond a0 (cond (a3.N != 0) (some false) (cond a1 (cond (decide (0 < (a3.L.length:Int))) (some false) (cond a2 (cond (a3.E.Kind != 0) (some (cond (cond (!(cond a0 (a3.N != 0) false)) (!(cond a1 (decide (0 < (a3.L.length:Int))) false)) false) (!(cond a2 true false)) false)) ((Yy a3.E).bind fun y10=>some (cond (cond (!(cond a0 (a3.N != 0) false)) (!(cond a1 (decide (0 < (a3.L.length:Int))) false)) false) (!(cond a2 (cond (a3.E.Kind != 0) true (!y10)) false)) false))) (some (cond (cond (!(cond a0 (a3.N != 0) false)) (!(cond a1 (decide (0 < (a3.L.length:Int))) false)) false) true false)))) (cond a2 (cond (a3.E.Kind != 0) (some (cond (cond (!(cond a0 (a3.N != 0) false)) (!(cond a1 (decide (0 < (a3.L.length:Int))) false)) false) (!(cond a2 true false)) false)) ((Yy a3.E).bind fun y11=>some (cond (cond (!(cond a0 (a3.N != 0) false)) (!(cond a1 (decide (0 < (a3.L.length:Int))) false)) false) (!(cond a2 (cond (a3.E.Kind != 0) true (!y11)) false)) false))) (some (cond (cond (!(cond a0 (a3.N != 0) false)) (!(cond a1 (decide (0 < (a3.L.length:Int))) false)) false) true false))))) (cond a1 (cond (decide (0 < (a3.L.length:Int))) (some false) (cond a2 (cond (a3.E.Kind != 0) (some (cond (cond (!(cond a0 (a3.N != 0) false)) (!(cond a1 (decide (0 < (a3.L.length:Int))) false)) false) (!(cond a2 true false)) false)) ((Yy a3.E).bind fun y12=>some (cond (cond (!(cond a0 (a3.N != 0) false)) (!(cond a1 (decide (0 < (a3.L.length:Int))) false)) false) (!(cond a2 (cond (a3.E.Kind != 0) true (!y12)) false)) false))) (some (cond (cond (!(cond a0 (a3.N != 0) false)) (!(cond a1 (decide (0 < (a3.L.length:Int))) false)) false) true false)))) (cond a2 (cond (a3.E.Kind != 0) (some (cond (cond (!(cond a0 (a3.N != 0) false)) (!(cond a1 (decide (0 < (a3.L.length:Int))) false)) false) (!(cond a2 true false)) false)) ((Yy a3.E).bind fun y13=>some (cond (cond (!(cond a0 (a3.N != 0) false)) (!(cond a1 (decide (0 < (a3.L.length:Int))) false)) false) (!(cond a2 (cond (a3.E.Kind != 0) true (!y13)) false)) false))) (some (cond (cond (!(cond a0 (a3.N != 0) false)) (!(cond a1 (decide (0 < (a3.L.length:Int))) false)) false) true false))))).bind fun (z5:Bool)=>some z5
noncomputable def Zk:Nat→((Zh→Option Bool)×(Zh→Int→Option Bool)×((List Zn)→Int→Option Bool)×(Zh→Int→Option Bool)×(Int→Zt→Int→Option Bool)×(Bool→Bool→Bool→Zt→Option Bool))
 | 0=>((fun _=>none),(fun _ _=>none),(fun _ _=>none),(fun _ _=>none),(fun _ _ _=>none),(fun _ _ _ _=>none))
 | k+1=>(Zho ((Zk k).1) ((Zk k).2.1) ((Zk k).2.2.1) ((Zk k).2.2.2.1) ((Zk k).2.2.2.2.1) ((Zk k).2.2.2.2.2),Zhp ((Zk k).1) ((Zk k).2.1) ((Zk k).2.2.1) ((Zk k).2.2.2.1) ((Zk k).2.2.2.2.1) ((Zk k).2.2.2.2.2),Zcn ((Zk k).1) ((Zk k).2.1) ((Zk k).2.2.1) ((Zk k).2.2.2.1) ((Zk k).2.2.2.2.1) ((Zk k).2.2.2.2.2),Zds ((Zk k).1) ((Zk k).2.1) ((Zk k).2.2.1) ((Zk k).2.2.2.1) ((Zk k).2.2.2.2.1) ((Zk k).2.2.2.2.2),Zey ((Zk k).1) ((Zk k).2.1) ((Zk k).2.2.1) ((Zk k).2.2.2.1) ((Zk k).2.2.2.2.1) ((Zk k).2.2.2.2.2),Zco ((Zk k).1) ((Zk k).2.1) ((Zk k).2.2.1) ((Zk k).2.2.2.1) ((Zk k).2.2.2.2.1) ((Zk k).2.2.2.2.2))
noncomputable def Zkk (a0:Zh):Option Bool:=lim fun k=>(Zk k).1 a0
noncomputable def Vh (a0:(List Int)) (a1:(List Za)):Option Za :=
 some (⟨1,a0,a1⟩:Za)
noncomputable def Ze7 (a0:(List Za)):Option Za :=
 cond ((a0.length:Int) == 0) (some (⟨0,[],[]⟩:Za)) (some (⟨9,[],a0⟩:Za))
noncomputable def Up (a0:(List Z6)) (s0_:(Int×(List Za))):Option ((Int×(List Za)) ⊕ (List Za)) :=
 cond (decide (s0_.1 < (a0.length:Int))) ((Xd a0 s0_.1).bind fun x2=>(Vh ([(IntKind.u64.wrap (Ut .u64 (IntKind.u64.wrap x2.At) (IntKind.u64.wrap ((IntKind.u64.wrap x2.Mask) * 2 ^ min (Int.toNat 32) 64)))),x2.Old,x2.New]:List Int) ([]:(List Za))).bind fun y3=>(Zjm 56 s0_.2 ([y3]:List Za)).bind fun l4=>some (.inl ((IntKind.i64.wrap (s0_.1+1)),l4))) (some (.inr s0_.2))
noncomputable def Zbe (a0:(List Z6)):Option Za :=
 (Zx (Up a0) (0,([]:List Za))).bind fun (z6:(List Za))=>(Ze7 z6).bind fun y8=>some y8
noncomputable def Zhq (Xz:(Zh→Option Za)) (Xt:((List Zn)→Option Za)) (X1:(Int→(List Zt)→Option Za)) (a0:Zh):Option Za :=
 cond (a0.Kind == 1) ((Vh ([(IntKind.u64.wrap a0.Kind)]:List Int) ([a0.Old,a0.New]:List Za)).bind fun y2=>some y2) (cond (a0.Kind == 2) ((Zbe a0.Words).bind fun y51=>(Xt a0.Kids).bind fun y87=>(Vh ([(IntKind.u64.wrap a0.Kind)]:List Int) ([y51,y87]:List Za)).bind fun y111=>some y111) (cond (a0.Kind == 3) ((X1 a0.List_ a0.Ops).bind fun y267=>(Vh ([(IntKind.u64.wrap (Ut .u64 (IntKind.u64.wrap a0.Kind) (IntKind.u64.wrap ((IntKind.u64.wrap a0.List_) * 2 ^ min (Int.toNat 8) 64))))]:List Int) ([y267]:List Za)).bind fun y291=>some y291) (some (⟨0,[],[]⟩:Za))))
noncomputable def U9 (Xz:(Zh→Option Za)) (a0:(List Zn)) (s0_:(Int×(List Za))):Option ((Int×(List Za)) ⊕ (List Za)) :=
 cond (decide (s0_.1 < (a0.length:Int))) ((Xd a0 s0_.1).bind fun x2=>(Xz x2.E).bind fun y87=>(Vh ([(IntKind.u64.wrap x2.At)]:List Int) ([y87]:List Za)).bind fun y111=>(Zjm 56 s0_.2 ([y111]:List Za)).bind fun l135=>some (.inl ((IntKind.i64.wrap (s0_.1+1)),l135))) (some (.inr s0_.2))
noncomputable def Zcp (Xz:(Zh→Option Za)) (Xt:((List Zn)→Option Za)) (X1:(Int→(List Zt)→Option Za)) (a0:(List Zn)):Option Za :=
 (Zx (U9 Xz a0) (0,([]:List Za))).bind fun (z160:(List Za))=>(Ze7 z160).bind fun y162=>some y162
noncomputable def G5 (Xz:(Zh→Option Za)) (a0:Int) (a1:(List Zt)) (s0_:(Int×(List Za))):Option ((Int×(List Za)) ⊕ (List Za)) :=
 cond (decide (s0_.1 < (a1.length:Int))) (((Xd a1 s0_.1).bind fun x3=>cond (x3.Kind == 0) ((Vh ([(IntKind.u64.wrap (Ut .u64 (IntKind.u64.wrap x3.Kind) (IntKind.u64.wrap ((IntKind.u64.wrap x3.N) * 2 ^ min (Int.toNat 8) 64))))]:List Int) ([]:(List Za))).bind fun y4=>(Zjm 56 s0_.2 ([y4]:List Za)).bind fun l5=>some l5) ((cond (x3.Kind == 1) (some ((x3.Kind == 1),([(IntKind.u64.wrap (Ut .u64 (IntKind.u64.wrap x3.Kind) (IntKind.u64.wrap ((IntKind.u64.wrap x3.N) * 2 ^ min (Int.toNat 8) 64))))]:List Int))) (some ((x3.Kind == 2),([(IntKind.u64.wrap (Ut .u64 (IntKind.u64.wrap x3.Kind) (IntKind.u64.wrap ((IntKind.u64.wrap x3.N) * 2 ^ min (Int.toNat 8) 64))))]:List Int)))).bind fun (z6:(Bool×(List Int)))=>cond z6.1 ((Vh z6.2 ([(⟨a0,[],x3.L⟩:Za)]:List Za)).bind fun y8=>(Zjm 56 s0_.2 ([y8]:List Za)).bind fun l9=>some l9) (cond (x3.Kind == 3) ((Xz x3.E).bind fun y11=>(Vh z6.2 ([y11]:List Za)).bind fun y12=>(Zjm 56 s0_.2 ([y12]:List Za)).bind fun l13=>some l13) (some s0_.2)))).bind fun (z1:(List Za))=>some (.inl ((IntKind.i64.wrap (s0_.1+1)),z1))) (some (.inr s0_.2))
noncomputable def Zdt (Xz:(Zh→Option Za)) (Xt:((List Zn)→Option Za)) (X1:(Int→(List Zt)→Option Za)) (a0:Int) (a1:(List Zt)):Option Za :=
 (Zx (G5 Xz a0 a1) (0,([]:List Za))).bind fun (z18:(List Za))=>(Ze7 z18).bind fun y20=>some y20
noncomputable def Yv:Nat→((Zh→Option Za)×((List Zn)→Option Za)×(Int→(List Zt)→Option Za))
 | 0=>((fun _=>none),(fun _=>none),(fun _ _=>none))
 | k+1=>(Zhq ((Yv k).1) ((Yv k).2.1) ((Yv k).2.2),Zcp ((Yv k).1) ((Yv k).2.1) ((Yv k).2.2),Zdt ((Yv k).1) ((Yv k).2.1) ((Yv k).2.2))
noncomputable def Zoo (a0:Zh):Option Za:=lim fun k=>(Yv k).1 a0
structure Ye where
 Kind:Int
 Off:Int
 Data:Int
 Ptrs:Int
 Code:Int
 Count:Int
 Segment:Int
 Double:Bool
noncomputable def Uc (a0:Za):Option Ye :=
 cond (a0.Kind == 1) (some (⟨1,0,(a0.Words.length:Int),(a0.Kids.length:Int),0,0,0,false⟩:Ye)) (cond (a0.Kind == 9) ((Zdf a0).bind fun y2=>some (⟨2,0,0,0,7,(IntKind.i64.wrap ((a0.Kids.length:Int) * (IntKind.i64.wrap (y2.1+y2.2)))),0,false⟩:Ye)) (some (⟨2,0,0,0,(IntKind.i64.wrap (a0.Kind - 2)),(a0.Kids.length:Int),0,false⟩:Ye)))
noncomputable def Zg3 (a0:Int):Option Int :=
 ((some (⟨[0,1,8,16,32,64,64],rfl⟩:(Arr Int 7)))).bind fun y6=>((some (⟨[0,0,0,0,0,0,0],rfl⟩:(Arr Int 7)))).bind fun y8=>(Xd y6.1 a0).bind fun x12=>some x12
noncomputable def Qg (a0:Ye):Option (Int×Bool) :=
 cond (a0.Kind == 1) (some ((IntKind.i64.wrap (a0.Data+a0.Ptrs)),true)) (cond (cond (a0.Kind == 2) (a0.Code == 7) false) (some ((IntKind.i64.wrap (a0.Count+1)),true)) (cond (cond (cond (cond (cond (a0.Kind == 2) (decide (0≤a0.Code)) false) (decide (a0.Code < 7)) false) (decide (0≤a0.Count)) false) (decide (a0.Count≤536870911)) false) ((Zg3 a0.Code).bind fun y2=>some ((IntKind.i64.wrap (Int.tdiv (IntKind.i64.wrap ((IntKind.i64.wrap (a0.Count * y2))+63)) 64)),true)) (some (0,false))))
noncomputable def Znc (a0:Ye):Option Int :=
 cond (a0.Kind == 1) (some (IntKind.u64.wrap (Ut .u64 (IntKind.u64.wrap (Ut .u64 (IntKind.u64.wrap (IntKind.u32.wrap ((IntKind.u32.wrap a0.Off) * 2 ^ min (Int.toNat 2) 32))) (IntKind.u64.wrap ((IntKind.u64.wrap a0.Data) * 2 ^ min (Int.toNat 32) 64)))) (IntKind.u64.wrap ((IntKind.u64.wrap a0.Ptrs) * 2 ^ min (Int.toNat 48) 64))))) (cond (a0.Kind == 2) (some (IntKind.u64.wrap (Ut .u64 (IntKind.u64.wrap (Ut .u64 (IntKind.u64.wrap (Ut .u64 1 (IntKind.u64.wrap (IntKind.u32.wrap ((IntKind.u32.wrap a0.Off) * 2 ^ min (Int.toNat 2) 32))))) (IntKind.u64.wrap ((IntKind.u64.wrap a0.Code) * 2 ^ min (Int.toNat 32) 64)))) (IntKind.u64.wrap ((IntKind.u64.wrap a0.Count) * 2 ^ min (Int.toNat 35) 64))))) (cond (a0.Kind == 3) ((cond a0.Double (some (IntKind.u64.wrap (Ut .u64 (IntKind.u64.wrap (Ut .u64 (IntKind.u64.wrap (Ut .u64 2 (IntKind.u64.wrap ((IntKind.u64.wrap a0.Off) * 2 ^ min (Int.toNat 3) 64)))) (IntKind.u64.wrap ((IntKind.u64.wrap a0.Segment) * 2 ^ min (Int.toNat 32) 64)))) 4))) (some (IntKind.u64.wrap (Ut .u64 (IntKind.u64.wrap (Ut .u64 2 (IntKind.u64.wrap ((IntKind.u64.wrap a0.Off) * 2 ^ min (Int.toNat 3) 64)))) (IntKind.u64.wrap ((IntKind.u64.wrap a0.Segment) * 2 ^ min (Int.toNat 32) 64)))))).bind fun (z1:Int)=>some z1) (some 0)))
noncomputable def Zif (a0:Int):Option Int :=
 some (IntKind.i64.wrap (Int.fdiv (IntKind.i32.wrap (IntKind.u32.wrap a0)) (2 ^ min (Int.toNat 2) 32)))
noncomputable def Q8 (a0:Int) (a1:Int) (a2:Int):Option Int :=
 (Vs (0≤a1)).bind fun u3=>(Vs (0≤a2)).bind fun u4=>some (IntKind.i64.wrap (IntKind.u64.wrap (Zc6 .u64 (Int.fdiv a0 (2 ^ min (Int.toNat a1) 64)) (IntKind.u64.wrap ((IntKind.u64.wrap (1 * 2 ^ min (Int.toNat a2) 64)) - 1)))))
noncomputable def Vi (a0:Int):Option Ye :=
 cond (a0 == 0) (some (⟨0,0,0,0,0,0,0,false⟩:Ye)) (cond ((IntKind.u64.wrap (Zc6 .u64 a0 3)) == 0) ((Zif a0).bind fun y4=>(Q8 a0 32 16).bind fun y5=>(Q8 a0 48 16).bind fun y6=>some (⟨1,y4,y5,y6,0,0,0,false⟩:Ye)) (cond ((IntKind.u64.wrap (Zc6 .u64 a0 3)) == 1) ((Zif a0).bind fun y10=>(Q8 a0 32 3).bind fun y11=>(Q8 a0 35 29).bind fun y12=>some (⟨2,y10,0,0,y11,y12,0,false⟩:Ye)) (cond ((IntKind.u64.wrap (Zc6 .u64 a0 3)) == 2) ((Q8 a0 3 29).bind fun y15=>(Q8 a0 32 32).bind fun y16=>some (⟨3,y15,0,0,0,0,y16,((IntKind.u64.wrap (Zc6 .u64 (Int.fdiv a0 (2 ^ min (Int.toNat 2) 64)) 1)) == 1)⟩:Ye)) (some (⟨4,0,0,0,0,0,0,false⟩:Ye)))))
noncomputable def Ue (a0:Ye):Option (Int×Bool) :=
 (Znc a0).bind fun y2=>(cond (a0.Kind != 4) ((Vi y2).bind fun y6=>some (cond (a0.Kind != 4) ((y6.Kind == a0.Kind) && ((y6.Off == a0.Off) && ((y6.Data == a0.Data) && ((y6.Ptrs == a0.Ptrs) && ((y6.Code == a0.Code) && ((y6.Count == a0.Count) && ((y6.Segment == a0.Segment) && (y6.Double == a0.Double)))))))) false)) (some false)).bind fun (z4:Bool)=>some (y2,z4)
noncomputable def Zju (a0:Za) (a1:Int):Option Int :=
 cond (cond (decide (a1 < 0)) true (decide ((a0.Words.length:Int)≤a1))) (some 0) ((Xd a0.Words a1).bind fun x2=>some x2)
noncomputable def Zee (a0:Int) (a1:(List Int)) (s0_:(Bool×Int)):Option ((Bool×Int) ⊕ Bool) :=
 cond (decide (s0_.2 < (a1.length:Int))) ((Xd a1 s0_.2).bind fun x4=>cond s0_.1 ((Zg6 a0 x4).bind fun y5=>some (.inl ((cond s0_.1 y5 false),(IntKind.i64.wrap (s0_.2+1))))) (some (.inl (false,(IntKind.i64.wrap (s0_.2+1)))))) (some (.inr s0_.1))
noncomputable def Zbv (a1:(List Int)) (y2:(Int×Bool)) (s1_:(Int×(List Int))):Option ((Int×(List Int)) ⊕ (List Int)) :=
 cond (decide (s1_.1 < (a1.length:Int))) ((Xd a1 s1_.1).bind fun x16=>(Vs ((IntKind.i64.wrap (Int.tdiv 64 y2.1))≠0)).bind fun u17=>(Xd s1_.2 (IntKind.i64.wrap (Int.tdiv s1_.1 (IntKind.i64.wrap (Int.tdiv 64 y2.1))))).bind fun x18=>(Vs ((IntKind.i64.wrap (Int.tdiv 64 y2.1))≠0)).bind fun u19=>(Vs (0≤(IntKind.i64.wrap ((Int.tmod s1_.1 (IntKind.i64.wrap (Int.tdiv 64 y2.1))) * y2.1)))).bind fun u20=>some (.inl ((IntKind.i64.wrap (s1_.1+1)),(Jo s1_.2 (IntKind.i64.wrap (Int.tdiv s1_.1 (IntKind.i64.wrap (Int.tdiv 64 y2.1)))) (IntKind.u64.wrap (Ut .u64 x18 (IntKind.u64.wrap (x16 * 2 ^ min (Int.toNat (IntKind.i64.wrap ((Int.tmod s1_.1 (IntKind.i64.wrap (Int.tdiv 64 y2.1))) * y2.1))) 64)))))))) (some (.inr s1_.2))
noncomputable def Zi7 (a0:Int) (a1:(List Int)):Option ((List Int)×Bool) :=
 (Gh a0).bind fun y2=>(Zx (Zee a0 a1) (y2.2,0)).bind fun (z8:Bool)=>cond (!z8) (some (([]:(List Int)),false)) ((Zg7 a0 (a1.length:Int)).bind fun y11=>(Zke 8 y11 (0:Int)).bind fun l12=>cond (y2.1 == 0) (some (l12,true)) ((Vs (y2.1≠0)).bind fun u14=>(Zx (Zbv a1 y2) (0,l12)).bind fun (z24:(List Int))=>some (z24,true)))
noncomputable def Zab (a0:Za) (s0_:(Int×(List Int))):Option ((Int×(List Int)) ⊕ (List Int)) :=
 cond (decide (s0_.1 < (a0.Kids.length:Int))) ((Xd a0.Kids s0_.1).bind fun x2=>(Zju x2 0).bind fun y3=>(Zjm 8 s0_.2 ([y3]:List Int)).bind fun l4=>some (.inl ((IntKind.i64.wrap (s0_.1+1)),l4))) (some (.inr s0_.2))
noncomputable def Zdy (a0:Za):Option (List Int) :=
 (Zx (Zab a0) (0,([]:List Int))).bind fun (z6:(List Int))=>(Zi7 (IntKind.i64.wrap (a0.Kind - 2)) z6).bind fun y8=>some y8.1
structure Ze where
 words:(List Int)
 next:Int
noncomputable def Q6 (Yh:(Ze→Int→Za→Option Ze)) (Yf:(Ze→Int→Za→Option Ze)) (Z7:(Ze→Int→(List Za)→Option Ze)) (Yg:(Ze→Int→Za→Option Ze)) (a0:Ze) (a1:Int) (a2:Za):Option Ze :=
 cond (a2.Kind == 0) (some (⟨a0.words,a0.next⟩:Ze)) ((Uc a2).bind fun y2=>(Qg y2).bind fun y4=>(cond (cond (y2.Kind == 1) (y4.1 == 0) false) (some (-1)) (some (IntKind.i64.wrap ((IntKind.i64.wrap (a0.next - a1)) - 1)))).bind fun (z5:Int)=>(Ue (⟨y2.Kind,z5,y2.Data,y2.Ptrs,y2.Code,y2.Count,y2.Segment,y2.Double⟩:Ye)).bind fun y10=>(Xd a0.words a1).bind fun x11=>(Yf (⟨(Jo a0.words a1 y10.1),(IntKind.i64.wrap (a0.next+y4.1))⟩:Ze) a0.next a2).bind fun y13=>some (⟨y13.words,y13.next⟩:Ze))
noncomputable def Qd (Yh:(Ze→Int→Za→Option Ze)) (Yf:(Ze→Int→Za→Option Ze)) (Z7:(Ze→Int→(List Za)→Option Ze)) (Yg:(Ze→Int→Za→Option Ze)) (a0:Ze) (a1:Int) (a2:Za):Option Ze :=
 cond (a2.Kind == 1) ((Vs (0 < List.length a0.words∧0≤a1∧a1≤(List.length a0.words:Int))).bind fun u1=>(Z7 (⟨(Zm2 a0.words a1 a2.Words),a0.next⟩:Ze) (IntKind.i64.wrap (a1+((min (List.length a2.Words) (Int.toNat ((List.length a0.words:Int) - a1)):Nat):Int))) a2.Kids).bind fun y3=>some (⟨y3.words,y3.next⟩:Ze)) (cond (a2.Kind == 8) ((Z7 (⟨a0.words,a0.next⟩:Ze) a1 a2.Kids).bind fun y4=>some (⟨y4.words,y4.next⟩:Ze)) (cond (a2.Kind == 9) ((Yg (⟨a0.words,a0.next⟩:Ze) a1 a2).bind fun y5=>some (⟨y5.words,y5.next⟩:Ze)) ((Vs (0 < List.length a0.words∧0≤a1∧a1≤(List.length a0.words:Int))).bind fun u6=>(Zdy a2).bind fun y7=>some (⟨(Zm2 a0.words a1 y7),a0.next⟩:Ze))))
noncomputable def Js (Yh:(Ze→Int→Za→Option Ze)) (a1:Int) (a2:(List Za)) (s0_:(Int×(List Int)×Int)):Option ((Int×(List Int)×Int) ⊕ ((List Int)×Int)) :=
 cond (decide (s0_.1 < (a2.length:Int))) ((Xd a2 s0_.1).bind fun x2=>(Yh (⟨s0_.2.1,s0_.2.2⟩:Ze) (IntKind.i64.wrap (a1+s0_.1)) x2).bind fun y3=>some (.inl ((IntKind.i64.wrap (s0_.1+1)),y3.words,y3.next))) (some (.inr (s0_.2.1,s0_.2.2)))
noncomputable def Vb (Yh:(Ze→Int→Za→Option Ze)) (Yf:(Ze→Int→Za→Option Ze)) (Z7:(Ze→Int→(List Za)→Option Ze)) (Yg:(Ze→Int→Za→Option Ze)) (a0:Ze) (a1:Int) (a2:(List Za)):Option Ze :=
 (Zx (Js Yh a1 a2) (0,a0.words,a0.next)).bind fun (z5:((List Int)×Int))=>some (⟨z5.1,z5.2⟩:Ze)
noncomputable def Kf (a1:Int) (a2:Za) (y2:(Int×Int)) (s0_:(Int×(List Int))):Option ((Int×(List Int)) ⊕ (List Int)) :=
 cond (decide (s0_.1 < (a2.Kids.length:Int))) ((Xd a2.Kids s0_.1).bind fun x9=>(Vs (0 < List.length s0_.2∧0≤(IntKind.i64.wrap ((IntKind.i64.wrap (a1+1))+(IntKind.i64.wrap (s0_.1 * (IntKind.i64.wrap (y2.1+y2.2))))))∧(IntKind.i64.wrap ((IntKind.i64.wrap (a1+1))+(IntKind.i64.wrap (s0_.1 * (IntKind.i64.wrap (y2.1+y2.2))))))≤(List.length s0_.2:Int))).bind fun u10=>some (.inl ((IntKind.i64.wrap (s0_.1+1)),(Zm2 s0_.2 (IntKind.i64.wrap ((IntKind.i64.wrap (a1+1))+(IntKind.i64.wrap (s0_.1 * (IntKind.i64.wrap (y2.1+y2.2)))))) x9.Words)))) (some (.inr s0_.2))
noncomputable def Kg (Z7:(Ze→Int→(List Za)→Option Ze)) (a1:Int) (a2:Za) (y2:(Int×Int)) (s1_:(Int×(List Int)×Int)):Option ((Int×(List Int)×Int) ⊕ ((List Int)×Int)) :=
 cond (decide (s1_.1 < (a2.Kids.length:Int))) ((Xd a2.Kids s1_.1).bind fun x15=>(Z7 (⟨s1_.2.1,s1_.2.2⟩:Ze) (IntKind.i64.wrap ((IntKind.i64.wrap ((IntKind.i64.wrap (a1+1))+(IntKind.i64.wrap (s1_.1 * (IntKind.i64.wrap (y2.1+y2.2))))))+y2.1)) x15.Kids).bind fun y16=>some (.inl ((IntKind.i64.wrap (s1_.1+1)),y16.words,y16.next))) (some (.inr (s1_.2.1,s1_.2.2)))
noncomputable def Vw (Yh:(Ze→Int→Za→Option Ze)) (Yf:(Ze→Int→Za→Option Ze)) (Z7:(Ze→Int→(List Za)→Option Ze)) (Yg:(Ze→Int→Za→Option Ze)) (a0:Ze) (a1:Int) (a2:Za):Option Ze :=
 (Zdf a2).bind fun y2=>(cond (decide (0 < (a2.Kids.length:Int))) ((Ue (⟨1,(a2.Kids.length:Int),y2.1,y2.2,0,0,0,false⟩:Ye)).bind fun y4=>(Xd a0.words a1).bind fun x5=>some (Jo a0.words a1 y4.1)) (some a0.words)).bind fun (z3:(List Int))=>(Zx (Kf a1 a2 y2) (0,z3)).bind fun (z13:(List Int))=>(Zx (Kg Z7 a1 a2 y2) (0,z13,a0.next)).bind fun (z18:((List Int)×Int))=>some (⟨z18.1,z18.2⟩:Ze)
noncomputable def Zl:Nat→((Ze→Int→Za→Option Ze)×(Ze→Int→Za→Option Ze)×(Ze→Int→(List Za)→Option Ze)×(Ze→Int→Za→Option Ze))
 | 0=>((fun _ _ _=>none),(fun _ _ _=>none),(fun _ _ _=>none),(fun _ _ _=>none))
 | k+1=>(Q6 ((Zl k).1) ((Zl k).2.1) ((Zl k).2.2.1) ((Zl k).2.2.2),Qd ((Zl k).1) ((Zl k).2.1) ((Zl k).2.2.1) ((Zl k).2.2.2),Vb ((Zl k).1) ((Zl k).2.1) ((Zl k).2.2.1) ((Zl k).2.2.2),Vw ((Zl k).1) ((Zl k).2.1) ((Zl k).2.2.1) ((Zl k).2.2.2))
noncomputable def Zb8 (a0:Ze) (a1:Int) (a2:Za):Option Ze:=lim fun k=>(Zl k).1 a0 a1 a2
noncomputable def Ze4 (a0:Za) (a1:Int):Option ((List Int)×Bool) :=
 (cond (a0.Kind == 10) (some true) ((Zig a0).bind fun y4=>some (cond (a0.Kind == 10) true (!y4)))).bind fun (z2:Bool)=>cond z2 (some (([]:(List Int)),false)) ((Zl9 a0).bind fun y7=>(Zg5 y7).bind fun y9=>cond (cond (decide (a1 < (IntKind.i64.wrap (1+y9)))) true (decide (131072 < (IntKind.i64.wrap (1+y9))))) (some (([]:(List Int)),false)) ((Zke 8 (IntKind.i64.wrap (1+y9)) (0:Int)).bind fun l11=>(Zb8 (⟨l11,1⟩:Ze) 0 y7).bind fun y13=>some (y13.words,true)))
noncomputable def X7 (a0:List Int):Option (List Int) :=
 Zjm 8 ([]:List Int) a0
noncomputable def Gu (a0:(List (List Int))) (s0_:(Int×(List (List Int)))):Option ((Int×(List (List Int))) ⊕ (List (List Int))) :=
 cond (decide (s0_.1 < (a0.length:Int))) ((Xd a0 s0_.1).bind fun x4=>(X7 x4).bind fun y5=>(Xd s0_.2 s0_.1).bind fun x6=>some (.inl ((IntKind.i64.wrap (s0_.1+1)),(Jo s0_.2 s0_.1 y5)))) (some (.inr s0_.2))
noncomputable def Zga (a0:(List (List Int))):Option (List (List Int)) :=
 (Zke 24 (a0.length:Int) ([]:(List Int))).bind fun l2=>(Zx (Gu a0) (0,l2)).bind fun (z9:(List (List Int)))=>some z9
structure Zw where
 segments:(List (List Int))
 size:Int
 left:Int
noncomputable def Zk1 (a0:(List (List Int))):Option (Option Zw) :=
 (Zga a0).bind fun y2=>some (some (⟨y2,0,0⟩:Zw))
structure X4 where
 Depth:Int
 Weight:Int
 MaxD:Int
 MaxOut:Int
noncomputable def Zie :Option X4 :=
 some (⟨64,65536,0,0⟩:X4)
noncomputable def Za0 (a0:Int) (a1:Int):Option Int :=
 some (if a1 < (if a0 < 0 then 0 else a0) then a1 else (if a0 < 0 then 0 else a0))
noncomputable def Zih (a0:X4):Option X4 :=
 (Za0 a0.Depth 64).bind fun y5=>(Za0 a0.Weight 65536).bind fun y6=>(Za0 a0.MaxD 4096).bind fun y7=>(Za0 a0.MaxOut 131072).bind fun y8=>some (⟨y5,y6,y7,y8⟩:X4)
noncomputable def Zeo (a0:(Option Zw)):Option Int :=
 cond (Option.isNone a0) (some 0) ((a0).bind fun x4=>some (x4.segments.length:Int))
noncomputable def Vn (a0:(Option Zw)) (a1:Int):Option Bool :=
 (cond (decide (0≤a1)) ((Zeo a0).bind fun y4=>some (cond (decide (0≤a1)) (decide (a1 < y4)) false)) (some false)).bind fun (z2:Bool)=>some z2
noncomputable def V3 (a0:(Option Zw)) (a1:Int):Option Int :=
 (Vn a0 a1).bind fun y2=>cond (!y2) (some 0) ((a0).bind fun x5=>(Xd x5.segments a1).bind fun x6=>some (x6.length:Int))
noncomputable def Ve (a0:(Option Zw)) (a1:Int) (a2:Int) (a3:Int):Option Bool :=
 ((Vn a0 a1).bind fun y8=>cond y8 (cond (decide (0≤a2)) (cond (decide (0≤a3)) ((V3 a0 a1).bind fun y9=>cond (decide (a3≤y9)) ((V3 a0 a1).bind fun y10=>some (cond (cond (cond (cond y8 (decide (0≤a2)) false) (decide (0≤a3)) false) (decide (a3≤y9)) false) (decide (a2≤(IntKind.i64.wrap (y10 - a3)))) false)) (some false)) (some false)) (some false)) (some false)).bind fun (z4:Bool)=>some z4
noncomputable def Vd (a0:(Option Zw)) (a1:Int) (a2:Int):Option (Int×Bool) :=
 (Ve a0 a1 a2 1).bind fun y2=>cond (!y2) (some (0,false)) ((a0).bind fun x6=>(Xd x6.segments a1).bind fun x7=>(Xd x7 a2).bind fun x8=>some (x8,true))
noncomputable def Zaa (a0:(Option Zw)) (a1:Int) (a2:Int) (a3:Int):Option ((List Int)×Bool) :=
 (Ve a0 a1 a2 a3).bind fun y2=>cond (!y2) (some (([]:(List Int)),false)) ((a0).bind fun x7=>(Xd x7.segments a1).bind fun x8=>(Zka x8 a2 (IntKind.i64.wrap (a2+a3))).bind fun l9=>(X7 l9).bind fun y10=>some (y10,true))
structure Qi where
 P:Ye
 Segment:Int
 At:Int
noncomputable def Zdc (a0:(Option Zw)) (a1:Ye) (a2:Int) (a3:Int):Option (Qi×Int) :=
 cond (a1.Kind == 4) (some ((⟨⟨0,0,0,0,0,0,0,false⟩,0,0⟩:Qi),9)) ((Qg a1).bind fun y2=>cond (!y2.2) (some ((⟨⟨0,0,0,0,0,0,0,false⟩,0,0⟩:Qi),8)) ((Ve a0 a2 a3 y2.1).bind fun y4=>cond (!y4) (some ((⟨⟨0,0,0,0,0,0,0,false⟩,0,0⟩:Qi),7)) (some ((⟨⟨a1.Kind,0,a1.Data,a1.Ptrs,a1.Code,a1.Count,a1.Segment,a1.Double⟩,a2,a3⟩:Qi),0))))
noncomputable def Zib (a0:(Option Zw)) (a1:Int) (a2:Int):Option (Qi×Int) :=
 (Zaa a0 a1 a2 2).bind fun y2=>cond (!y2.2) (some ((⟨⟨0,0,0,0,0,0,0,false⟩,0,0⟩:Qi),7)) ((Xd y2.1 0).bind fun x3=>(Vi x3).bind fun y4=>(Xd y2.1 1).bind fun x5=>(Vi x5).bind fun y6=>cond (cond (y4.Kind != 3) true y4.Double) (some ((⟨⟨0,0,0,0,0,0,0,false⟩,0,0⟩:Qi),8)) (cond (cond (y6.Kind != 4) (y6.Off != 0) false) (some ((⟨⟨0,0,0,0,0,0,0,false⟩,0,0⟩:Qi),8)) ((Zdc a0 y6 y4.Segment y4.Off).bind fun y8=>some (y8.1,y8.2))))
noncomputable def Zic (a0:(Option Zw)) (a1:Int) (a2:Int):Option (Qi×Int) :=
 (Vd a0 a1 a2).bind fun y2=>cond (!y2.2) (some ((⟨⟨0,0,0,0,0,0,0,false⟩,0,0⟩:Qi),7)) ((Vi y2.1).bind fun y4=>(Zdc a0 y4 a1 (IntKind.i64.wrap ((IntKind.i64.wrap (a2+1))+y4.Off))).bind fun y6=>some (y6.1,y6.2))
noncomputable def Zia (a0:(Option Zw)) (a1:Int) (a2:Int):Option (Qi×Int) :=
 (Vd a0 a1 a2).bind fun y2=>cond (!y2.2) (some ((⟨⟨0,0,0,0,0,0,0,false⟩,0,0⟩:Qi),7)) ((Vi y2.1).bind fun y4=>cond (y4.Kind == 0) (some ((⟨⟨0,0,0,0,0,0,0,false⟩,0,0⟩:Qi),0)) (cond (cond (y4.Kind == 3) y4.Double false) ((Zib a0 y4.Segment y4.Off).bind fun y6=>some (y6.1,y6.2)) (cond (y4.Kind == 3) ((Zic a0 y4.Segment y4.Off).bind fun y8=>some (y8.1,y8.2)) ((Zdc a0 y4 a1 (IntKind.i64.wrap ((IntKind.i64.wrap (a2+1))+y4.Off))).bind fun y10=>some (y10.1,y10.2)))))
structure Zf where
 a:(Option Zw)
 kind:Int
 segment:Int
 at_:Int
 words:Int
 ptrs:Int
 count:Int
 code:Int
 index:Int
noncomputable def Zde (a0:Zf):Option (Zf×Int) :=
 (Vd a0.a a0.segment a0.at_).bind fun y2=>(Vi y2.1).bind fun y4=>cond (cond (cond (cond (y4.Kind != 0) (y4.Kind != 1) false) true (decide (y4.Off < 0))) true (decide (a0.count < (IntKind.i64.wrap (y4.Off * (IntKind.i64.wrap (y4.Data+y4.Ptrs))))))) (some ((⟨(none:(Option Zw)),0,0,0,0,0,0,0,0⟩:Zf),8)) (some ((⟨a0.a,a0.kind,a0.segment,a0.at_,y4.Data,y4.Ptrs,y4.Off,a0.code,a0.index⟩:Zf),0))
noncomputable def Ze8 (a0:(Option Zw)) (a1:Int) (a2:Int):Option (Zf×Int) :=
 (Zia a0 a1 a2).bind fun y2=>cond (cond (y2.2 != 0) true (y2.1.P.Kind == 0)) (some ((⟨(none:(Option Zw)),0,0,0,0,0,0,0,0⟩:Zf),y2.2)) (cond (y2.1.P.Kind == 1) (some ((⟨a0,1,y2.1.Segment,y2.1.At,y2.1.P.Data,y2.1.P.Ptrs,0,0,0⟩:Zf),0)) (cond (y2.1.P.Code == 7) ((Zde (⟨a0,(IntKind.i64.wrap (y2.1.P.Code+2)),y2.1.Segment,y2.1.At,0,0,y2.1.P.Count,0,0⟩:Zf)).bind fun y4=>some (y4.1,y4.2)) (some ((⟨a0,(IntKind.i64.wrap (y2.1.P.Code+2)),y2.1.Segment,y2.1.At,0,0,y2.1.P.Count,0,0⟩:Zf),0))))
noncomputable def Zgb (a0:(Option Zw)):Option (Zf×Int) :=
 (Ze8 a0 0 0).bind fun y2=>some (y2.1,y2.2)
noncomputable def Jc (a0:Zf):Option Int :=
 some a0.kind
noncomputable def X9 (a0:Zf):Option Int :=
 cond (a0.kind == 1) (some a0.ptrs) (some a0.count)
noncomputable def Ze9 (a0:Zf):Option Int :=
 (Jc a0).bind fun y2=>cond (y2 == 0) (some 0) (((Jc a0).bind fun y8=>cond (y8 == 9) ((X9 a0).bind fun y9=>some (cond (y8 == 9) (decide (0 < y9)) false)) (some false)).bind fun (z5:Bool)=>cond z5 (some 2) (some 1))
noncomputable def Zae (a0:Zf):Option Int :=
 cond (a0.kind == 1) (some a0.words) (cond (a0.kind == 10) (some 1) (some 0))
noncomputable def Zdd (a0:Zf):Option (Int×Int) :=
 cond (a0.kind != 9) (some (0,0)) (some (a0.words,a0.ptrs))
noncomputable def Zc0 (a0:Zf):Option Int :=
 (Jc a0).bind fun y2=>cond (y2 == 0) (some 0) (cond (y2 == 1) ((Zae a0).bind fun y5=>(X9 a0).bind fun y6=>some (IntKind.i64.wrap ((IntKind.i64.wrap (1+y5))+y6))) (cond (y2 == 9) ((Zdd a0).bind fun y8=>(X9 a0).bind fun y10=>some (IntKind.i64.wrap (1+(IntKind.i64.wrap (y10 * (IntKind.i64.wrap ((IntKind.i64.wrap (1+y8.1))+y8.2))))))) ((X9 a0).bind fun y12=>some (IntKind.i64.wrap (1+y12)))))
noncomputable def V6 (a0:Zf) (a1:Int):Option (Zf×Int) :=
 (cond (decide (a1 < 0)) (some true) ((X9 a0).bind fun y4=>some (cond (decide (a1 < 0)) true (decide (y4≤a1))))).bind fun (z2:Bool)=>cond z2 (some ((⟨(none:(Option Zw)),0,0,0,0,0,0,0,0⟩:Zf),0)) (cond (a0.kind == 1) ((Ze8 a0.a a0.segment (IntKind.i64.wrap ((IntKind.i64.wrap (a0.at_+a0.words))+a1))).bind fun y7=>some (y7.1,y7.2)) (cond (a0.kind == 8) ((Ze8 a0.a a0.segment (IntKind.i64.wrap (a0.at_+a1))).bind fun y9=>some (y9.1,y9.2)) (cond (a0.kind == 9) (some ((⟨a0.a,1,a0.segment,(IntKind.i64.wrap ((IntKind.i64.wrap (a0.at_+1))+(IntKind.i64.wrap (a1 * (IntKind.i64.wrap (a0.words+a0.ptrs)))))),a0.words,a0.ptrs,0,0,0⟩:Zf),0)) (some ((⟨a0.a,10,a0.segment,a0.at_,0,0,0,(IntKind.i64.wrap (a0.kind - 2)),a1⟩:Zf),0)))))
structure Zg where
 left:Int
noncomputable def Ka (Yr:(Zg→Zf→Int→Option (Int×Zg))) (Yq:(Zg→Zf→Int→Option (Int×Zg))) (Ys:(Zg→Zf→Int→Option (Int×Zg))) (a0:Zg) (a1:Zf) (a2:Int):Option (Int×Zg) :=
 ((Ze9 a1).bind fun y6=>cond (decide (a2 < y6)) (some true) ((Zc0 a1).bind fun y7=>some (cond (decide (a2 < y6)) true (decide (a0.left < y7))))).bind fun (z3:Bool)=>cond z3 (some (3,a0)) ((Zc0 a1).bind fun y10=>(Jc a1).bind fun y12=>(cond (y12 == 1) (some (y12 == 1)) (some (y12 == 8))).bind fun (z13:Bool)=>cond z13 ((Yq (⟨(IntKind.i64.wrap (a0.left - y10))⟩:Zg) a1 (IntKind.i64.wrap (a2 - 1))).bind fun y16=>some (y16.1,y16.2)) (cond (y12 == 9) ((Ys (⟨(IntKind.i64.wrap (a0.left - y10))⟩:Zg) a1 (IntKind.i64.wrap (a2 - 1))).bind fun y18=>some (y18.1,y18.2)) (some (0,(⟨(IntKind.i64.wrap (a0.left - y10))⟩:Zg)))))
noncomputable def Ky (Yr:(Zg→Zf→Int→Option (Int×Zg))) (a1:Zf) (a2:Int) (y2:Int) (s0_:(Int×Int)):Option ((Int×Int) ⊕ ((Int×Int) ⊕ Int)) :=
 cond (decide (s0_.1 < y2)) ((V6 a1 s0_.1).bind fun y4=>cond (y4.2 != 0) (some (.inr (.inl (y4.2,s0_.2)))) ((Yr (⟨s0_.2⟩:Zg) y4.1 a2).bind fun y6=>cond (y6.1 != 0) (some (.inr (.inl (y6.1,y6.2.left)))) (some (.inl ((IntKind.i64.wrap (s0_.1+1)),y6.2.left))))) (some (.inr (.inr s0_.2)))
noncomputable def Kx (Yr:(Zg→Zf→Int→Option (Int×Zg))) (Yq:(Zg→Zf→Int→Option (Int×Zg))) (Ys:(Zg→Zf→Int→Option (Int×Zg))) (a0:Zg) (a1:Zf) (a2:Int):Option (Int×Zg) :=
 (X9 a1).bind fun y2=>(Zx (Ky Yr a1 a2 y2) (0,a0.left)).bind fun (z10:((Int×Int) ⊕ Int))=>match z10 with | .inl z10=>some (z10.1,(⟨z10.2⟩:Zg)) | .inr z10=>some (0,(⟨z10⟩:Zg))
noncomputable def Ji (Yq:(Zg→Zf→Int→Option (Int×Zg))) (a1:Zf) (a2:Int) (y2:Int) (s0_:(Int×Int)):Option ((Int×Int) ⊕ ((Int×Int) ⊕ Int)) :=
 cond (decide (s0_.1 < y2)) ((V6 a1 s0_.1).bind fun y4=>cond (y4.2 != 0) (some (.inr (.inl (y4.2,s0_.2)))) ((Yq (⟨s0_.2⟩:Zg) y4.1 (IntKind.i64.wrap (a2 - 1))).bind fun y6=>cond (y6.1 != 0) (some (.inr (.inl (y6.1,y6.2.left)))) (some (.inl ((IntKind.i64.wrap (s0_.1+1)),y6.2.left))))) (some (.inr (.inr s0_.2)))
noncomputable def Jf (Yr:(Zg→Zf→Int→Option (Int×Zg))) (Yq:(Zg→Zf→Int→Option (Int×Zg))) (Ys:(Zg→Zf→Int→Option (Int×Zg))) (a0:Zg) (a1:Zf) (a2:Int):Option (Int×Zg) :=
 (X9 a1).bind fun y2=>(Zx (Ji Yq a1 a2 y2) (0,a0.left)).bind fun (z10:((Int×Int) ⊕ Int))=>match z10 with | .inl z10=>some (z10.1,(⟨z10.2⟩:Zg)) | .inr z10=>some (0,(⟨z10⟩:Zg))
noncomputable def Zy:Nat→((Zg→Zf→Int→Option (Int×Zg))×(Zg→Zf→Int→Option (Int×Zg))×(Zg→Zf→Int→Option (Int×Zg)))
 | 0=>((fun _ _ _=>none),(fun _ _ _=>none),(fun _ _ _=>none))
 | k+1=>(Ka ((Zy k).1) ((Zy k).2.1) ((Zy k).2.2),Kx ((Zy k).1) ((Zy k).2.1) ((Zy k).2.2),Jf ((Zy k).1) ((Zy k).2.1) ((Zy k).2.2))
noncomputable def Zeh (a0:Zg) (a1:Zf) (a2:Int):Option (Int×Zg):=lim fun k=>(Zy k).1 a0 a1 a2
noncomputable def Zgc (a0:(Option Zw)) (a1:X4):Option (Int×Int) :=
 (Zih a1).bind fun y2=>(Zgb a0).bind fun y4=>cond (y4.2 != 0) (some (0,y4.2)) ((Zeh (⟨y2.Weight⟩:Zg) y4.1 y2.Depth).bind fun y6=>cond (y6.1 != 0) (some (0,y6.1)) (some ((IntKind.i64.wrap (y2.Weight - y6.2.left)),0)))
noncomputable def Zid (a0:Zh) (a1:Int):Option ((List Int)×Bool) :=
 (Zkk a0).bind fun y2=>cond (!y2) (some (([]:(List Int)),false)) ((Zoo a0).bind fun y5=>(Ze4 y5 a1).bind fun y6=>cond (!y6.2) (some (([]:(List Int)),false)) ((Zk1 ([y6.1]:List (List Int))).bind fun y10=>(Zie).bind fun y11=>(Zgc y10 y11).bind fun y12=>cond (y12.2 != 0) (some (([]:(List Int)),false)) (some (y6.1,true))))
noncomputable def Gg (a0:Zh):Option Bool :=
 (Vg a0).bind fun y2=>cond (!y2) ((Kt).bind fun y4=>some y4) ((Zid a0 131072).bind fun y6=>(cond y6.2 ((Zdb a0).bind fun y14=>cond ((y6.1.length:Int) == y14) ((Kt).bind fun y15=>some (cond (cond (!y6.2) true ((y6.1.length:Int) == y14)) y15 false)) (some false)) ((Kt).bind fun y16=>some y16)).bind fun (z10:Bool)=>some z10)
end Go.Proofs.YtmlcnhambfkjaaaGreat
