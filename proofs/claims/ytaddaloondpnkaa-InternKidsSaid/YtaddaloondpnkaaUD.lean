/- Part UD of this seat's mirrors: functions of the seat's program, and the plain functions that they are; each theorem bears its own conditions. -/
import Derived.Test.YtaddaloondpnkaaH26
import Derived.Test.YtaddaloondpnkaaTy
namespace Go.Proofs.Ytaddaloondpnkaa
open Go.RowKit
set_option linter.unusedVariables false
set_option linter.unusedSimpArgs false
set_option maxRecDepth 100000
set_option maxHeartbeats 4000000
structure Zr where
 segments:(List (List Int))
 size:Int
 left:Int
structure Za5 where
 L:(List (List Int))
 Size:Int
 Most:Int
 Used:Int
noncomputable def Zal (a0:Int) (a1:Int):Option Za5 :=
 (cond (decide (a0 < 1)) (some 1) (some a0)).bind fun (z1:Int)=>(cond (decide (a1 < 0)) (some 0) (some a1)).bind fun (z3:Int)=>(cond (decide (131072 < z3)) (some 131072) (some z3)).bind fun (z5:Int)=>some (⟨([]:(List (List Int))),z1,z5,0⟩:Za5)
noncomputable def Gm (a0:(Option Zr)):Option Int :=
 cond (Option.isNone a0) (some 0) ((a0).bind fun x4=>some (x4.segments.length:Int))
noncomputable def Xf (a0:List Int):Option (List Int) :=
 Zeu 8 ([]:List Int) a0
noncomputable def Vk (a0:(List (List Int))) (s0_:(Int×(List (List Int)))):Option ((Int×(List (List Int))) ⊕ (List (List Int))) :=
 cond (decide (s0_.1 < (a0.length:Int))) ((Z9 a0 s0_.1).bind fun x4=>(Xf x4).bind fun y5=>(Z9 s0_.2 s0_.1).bind fun x6=>some (.inl ((IntKind.i64.wrap (s0_.1+1)),(Y5 s0_.2 s0_.1 y5)))) (some (.inr s0_.2))
noncomputable def Zaz (a0:(List (List Int))):Option (List (List Int)) :=
 (Zix 24 (a0.length:Int) ([]:(List Int))).bind fun l2=>(Z6 (Vk a0) (0,l2)).bind fun (z9:(List (List Int)))=>some z9
noncomputable def J0 (a0:(Option Zr)) (a1:Int):Option Bool :=
 (cond (decide (0≤a1)) ((Gm a0).bind fun y4=>some (cond (decide (0≤a1)) (decide (a1 < y4)) false)) (some false)).bind fun (z2:Bool)=>some z2
noncomputable def Ki (a0:(Option Zr)) (a1:Int):Option Int :=
 (J0 a0 a1).bind fun y2=>cond (!y2) (some 0) ((a0).bind fun x5=>(Z9 x5.segments a1).bind fun x6=>some (x6.length:Int))
noncomputable def Ju (a0:(Option Zr)) (a1:Int) (a2:Int) (a3:Int):Option Bool :=
 ((J0 a0 a1).bind fun y8=>cond y8 (cond (decide (0≤a2)) (cond (decide (0≤a3)) ((Ki a0 a1).bind fun y9=>cond (decide (a3≤y9)) ((Ki a0 a1).bind fun y10=>some (cond (cond (cond (cond y8 (decide (0≤a2)) false) (decide (0≤a3)) false) (decide (a3≤y9)) false) (decide (a2≤(IntKind.i64.wrap (y10 - a3)))) false)) (some false)) (some false)) (some false)) (some false)).bind fun (z4:Bool)=>some z4
noncomputable def Qd (a0:(Option Zr)) (a1:Int) (a2:Int):Option (Int×Bool) :=
 (Ju a0 a1 a2 1).bind fun y2=>cond (!y2) (some (0,false)) ((a0).bind fun x6=>(Z9 x6.segments a1).bind fun x7=>(Z9 x7 a2).bind fun x8=>some (x8,true))
noncomputable def Kx (a0:(List Int)) (a1:(List Int)) (s0_:Int):Option (Int ⊕ (Unit ⊕ Unit)) :=
 cond (decide (s0_ < (a0.length:Int))) ((Z9 a0 s0_).bind fun x3=>(Z9 a1 s0_).bind fun x4=>cond (x3 != x4) (some (.inr (.inl ()))) (some (.inl (IntKind.i64.wrap (s0_+1))))) (some (.inr (.inr ())))
noncomputable def V5 (a0:(List Int)) (a1:(List Int)):Option Bool :=
 cond ((a0.length:Int) != (a1.length:Int)) (some false) ((Z6 (Kx a0 a1) 0).bind fun (z7:(Unit ⊕ Unit))=>match z7 with | .inl z7=>some false | .inr z7=>some true)
structure Zi where
 Kind:Int
 Words:(List Int)
 Kids:(List Zi)
noncomputable def Xs (Jp:(Zi→Int→Int→Option Int)) (a0:Zi) (a1:Int) (s0_:(Int×Int)):Option ((Int×Int) ⊕ Int) :=
 cond (cond (decide (s0_.2 < (a0.Kids.length:Int))) (decide (0≤s0_.1)) false) ((Z9 a0.Kids s0_.2).bind fun x1=>(Jp x1 (IntKind.i64.wrap (a1 - 1)) s0_.1).bind fun y2=>some (.inl (y2,(IntKind.i64.wrap (s0_.2+1))))) (some (.inr s0_.1))
noncomputable def Xx (Jp:(Zi→Int→Int→Option Int)) (a0:Zi) (a1:Int) (a2:Int):Option Int :=
 cond (cond (a1 == 0) true (decide ((IntKind.i64.wrap ((IntKind.i64.wrap (a2 - 1)) - (a0.Words.length:Int))) < 0))) (some (-1)) ((Z6 (Xs Jp a0 a1) ((IntKind.i64.wrap ((IntKind.i64.wrap (a2 - 1)) - (a0.Words.length:Int))),0)).bind fun (z4:Int)=>some z4)
noncomputable def Ym:Nat→(Zi→Int→Int→Option Int)
 | 0=>(fun _ _ _=>none)
 | k+1=>Xx ((Ym k))
noncomputable def Gw (a0:Zi) (a1:Int) (a2:Int):Option Int:=lim fun k=>(Ym k) a0 a1 a2
noncomputable def Vl (a0:Zi):Option Bool :=
 (Gw a0 80 3000).bind fun y2=>some (decide (0≤y2))
noncomputable def Qz (a0:Int):Option (Int×Bool) :=
 ((some (⟨[0,1,8,16,32,64],rfl⟩:(Arr Int 6)))).bind fun y6=>((some (⟨[0,0,0,0,0,0],rfl⟩:(Arr Int 6)))).bind fun y8=>cond (cond (decide (a0 < 0)) true (decide (6≤a0))) (some (0,false)) ((Z9 y6.1 a0).bind fun x12=>some (x12,true))
noncomputable def Zjl (a0:Int) (a1:Int):Option Bool :=
 (Qz a0).bind fun y2=>(cond y2.2 ((Y7 (0≤y2.1)).bind fun u6=>some (cond y2.2 ((Int.fdiv a1 (2 ^ min (Int.toNat y2.1) 64)) == 0) false)) (some false)).bind fun (z4:Bool)=>some z4
noncomputable def Y9 (a0:Int):Option Int :=
 cond (a0 == 0) (some 0) (cond (a0 == 1) (some 1) (cond (a0 == 2) (some 8) (cond (a0 == 3) (some 16) (cond (a0 == 4) (some 32) (cond (a0 == 5) (some 64) (some (-1)))))))
noncomputable def Xz (y2:Int) (s0_:(Int×Int)):Option ((Int×Int) ⊕ Int) :=
 cond (decide (s0_.2 < y2)) (some (.inl ((IntKind.u64.wrap (Int.tdiv s0_.1 2)),(IntKind.i64.wrap (s0_.2+1))))) (some (.inr s0_.1))
noncomputable def Jw (a0:Int) (a1:Int):Option Bool :=
 (Y9 a0).bind fun y2=>cond (decide (y2 < 0)) (some false) ((Z6 (Xz y2) (a1,0)).bind fun (z4:Int)=>some (z4 == 0))
noncomputable def Kc (Km:(Zi→Int→Option Bool)) (a0:Zi) (a1:Int) (s0_:Int):Option (Int ⊕ (Unit ⊕ Unit)) :=
 cond (decide (s0_ < (a0.Kids.length:Int))) ((Z9 a0.Kids s0_).bind fun x2=>(Km x2 (IntKind.i64.wrap (a1 - 1))).bind fun y4=>cond (!y4) (some (.inr (.inl ()))) ((cond ((cond (decide (2≤a0.Kind)) (decide (a0.Kind≤7)) false) != (x2.Kind == 10)) (some true) (cond (a0.Kind == 9) (cond (x2.Kind != 1) (some true) (cond (decide (2≤a0.Kind)) (cond (decide (a0.Kind≤7)) ((Z9 x2.Words 0).bind fun x14=>(Jw (IntKind.i64.wrap (a0.Kind - 2)) x14).bind fun y15=>some (cond (cond ((cond (decide (2≤a0.Kind)) (decide (a0.Kind≤7)) false) != (x2.Kind == 10)) true (cond (a0.Kind == 9) (x2.Kind != 1) false)) true (cond (cond (decide (2≤a0.Kind)) (decide (a0.Kind≤7)) false) (!y15) false))) (some (cond (cond ((cond (decide (2≤a0.Kind)) (decide (a0.Kind≤7)) false) != (x2.Kind == 10)) true (cond (a0.Kind == 9) (x2.Kind != 1) false)) true false))) (some (cond (cond ((cond (decide (2≤a0.Kind)) (decide (a0.Kind≤7)) false) != (x2.Kind == 10)) true (cond (a0.Kind == 9) (x2.Kind != 1) false)) true false)))) (cond (decide (2≤a0.Kind)) (cond (decide (a0.Kind≤7)) ((Z9 x2.Words 0).bind fun x16=>(Jw (IntKind.i64.wrap (a0.Kind - 2)) x16).bind fun y17=>some (cond (cond ((cond (decide (2≤a0.Kind)) (decide (a0.Kind≤7)) false) != (x2.Kind == 10)) true (cond (a0.Kind == 9) (x2.Kind != 1) false)) true (cond (cond (decide (2≤a0.Kind)) (decide (a0.Kind≤7)) false) (!y17) false))) (some (cond (cond ((cond (decide (2≤a0.Kind)) (decide (a0.Kind≤7)) false) != (x2.Kind == 10)) true (cond (a0.Kind == 9) (x2.Kind != 1) false)) true false))) (some (cond (cond ((cond (decide (2≤a0.Kind)) (decide (a0.Kind≤7)) false) != (x2.Kind == 10)) true (cond (a0.Kind == 9) (x2.Kind != 1) false)) true false))))).bind fun (z9:Bool)=>cond z9 (some (.inr (.inl ()))) (some (.inl (IntKind.i64.wrap (s0_+1)))))) (some (.inr (.inr ())))
noncomputable def Vo (Km:(Zi→Int→Option Bool)) (a0:Zi) (a1:Int):Option Bool :=
 cond (a0.Kind == 0) (some (cond ((a0.Words.length:Int) == 0) ((a0.Kids.length:Int) == 0) false)) (cond (a0.Kind == 10) (some (cond ((a0.Words.length:Int) == 1) ((a0.Kids.length:Int) == 0) false)) (cond (cond (cond (cond (cond (cond (decide (a0.Kind < 0)) true (decide (10 < a0.Kind))) true (a1 == 0)) true (decide (65536≤(a0.Words.length:Int)))) true (cond (a0.Kind == 1) (decide (65536≤(a0.Kids.length:Int))) false)) true (decide (1048576≤(a0.Kids.length:Int)))) (some false) (cond (cond (decide (1 < a0.Kind)) (decide (0 < (a0.Words.length:Int))) false) (some false) ((Z6 (Kc Km a0 a1) 0).bind fun (z28:(Unit ⊕ Unit))=>match z28 with | .inl z28=>some false | .inr z28=>some true))))
noncomputable def Q1:Nat→(Zi→Int→Option Bool)
 | 0=>(fun _ _=>none)
 | k+1=>Vo ((Q1 k))
noncomputable def Za7 (a0:Zi) (a1:Int):Option Bool:=lim fun k=>(Q1 k) a0 a1
noncomputable def Ky (a0:(List Int)) (s0_:Int):Option (Int ⊕ Int) :=
 (cond (decide (0 < s0_)) ((Z9 a0 (IntKind.i64.wrap (s0_ - 1))).bind fun x4=>some (cond (decide (0 < s0_)) (x4 == 0) false)) (some false)).bind fun (z2:Bool)=>cond z2 (some (.inl (IntKind.i64.wrap (s0_ - 1)))) (some (.inr s0_))
noncomputable def V6 (a0:(List Int)):Option (List Int) :=
 (Z6 (Ky a0) (a0.length:Int)).bind fun (z7:Int)=>(Zhj a0 0 z7).bind fun l10=>(Zeu 8 ([]:List Int) l10).bind fun l11=>some l11
noncomputable def Qi (K6:(Zi→Option Zi)) (a0:Zi) (s0_:(Int×Int×(List Zi))):Option ((Int×Int×(List Zi)) ⊕ (Int×(List Zi))) :=
 cond (decide (s0_.2.1 < (a0.Kids.length:Int))) (((Z9 a0.Kids s0_.2.1).bind fun x4=>(K6 x4).bind fun y5=>(Zeu 56 s0_.2.2 ([y5]:List Zi)).bind fun l7=>cond (y5.Kind != 0) (some ((IntKind.i64.wrap (s0_.2.1+1)),l7)) (some (s0_.1,l7))).bind fun (z1:(Int×(List Zi)))=>some (.inl (z1.1,(IntKind.i64.wrap (s0_.2.1+1)),z1.2))) (some (.inr (s0_.1,s0_.2.2)))
noncomputable def V1 (K6:(Zi→Option Zi)) (a0:Zi):Option Zi :=
 cond (a0.Kind == 0) (some (⟨0,[],[]⟩:Zi)) ((Z6 (Qi K6 a0) (0,0,([]:List Zi))).bind fun (z10:(Int×(List Zi)))=>cond (a0.Kind == 1) ((V6 a0.Words).bind fun y14=>(Zhj z10.2 0 z10.1).bind fun l15=>some (⟨1,y14,l15⟩:Zi)) ((Zeu 8 ([]:List Int) a0.Words).bind fun l17=>some (⟨a0.Kind,l17,z10.2⟩:Zi)))
noncomputable def Xk:Nat→(Zi→Option Zi)
 | 0=>(fun _=>none)
 | k+1=>V1 ((Xk k))
noncomputable def Zbv (a0:Zi):Option Zi:=lim fun k=>(Xk k) a0
noncomputable def Ke (a0:Zi) (s0_:(Int×Int×Int)):Option ((Int×Int×Int) ⊕ (Int×Int)) :=
 cond (decide (s0_.2.2 < (a0.Kids.length:Int))) ((((Z9 a0.Kids s0_.2.2).bind fun x5=>cond (decide (s0_.1 < (x5.Words.length:Int))) ((Z9 a0.Kids s0_.2.2).bind fun x7=>some (x7.Words.length:Int)) (some s0_.1)).bind fun (z2:Int)=>(Z9 a0.Kids s0_.2.2).bind fun x12=>cond (decide (s0_.2.1 < (x12.Kids.length:Int))) ((Z9 a0.Kids s0_.2.2).bind fun x14=>some (z2,(x14.Kids.length:Int))) (some (z2,s0_.2.1))).bind fun (z1:(Int×Int))=>some (.inl (z1.1,z1.2,(IntKind.i64.wrap (s0_.2.2+1))))) (some (.inr (s0_.1,s0_.2.1)))
noncomputable def U8 (a0:Zi):Option (Int×Int) :=
 (Z6 (Ke a0) (0,0,0)).bind fun (z18:(Int×Int))=>some (z18.1,z18.2)
noncomputable def V4 (a0:Int) (a1:Int):Option Int :=
 (Y9 a0).bind fun y2=>cond (cond (cond (decide (y2 < 1)) true (decide (a1 < 0))) true (decide (1099511627776 < a1))) (some 0) ((Y9 a0).bind fun y5=>(Y7 (y5≠0)).bind fun u6=>(Y7 ((IntKind.i64.wrap (Int.tdiv 64 y5))≠0)).bind fun u8=>cond (decide (0 < (Int.tmod a1 (IntKind.i64.wrap (Int.tdiv 64 y5))))) ((Y7 ((IntKind.i64.wrap (Int.tdiv 64 y5))≠0)).bind fun u10=>some (IntKind.i64.wrap ((IntKind.i64.wrap (Int.tdiv a1 (IntKind.i64.wrap (Int.tdiv 64 y5))))+1))) ((Y7 ((IntKind.i64.wrap (Int.tdiv 64 y5))≠0)).bind fun u12=>some (IntKind.i64.wrap (Int.tdiv a1 (IntKind.i64.wrap (Int.tdiv 64 y5))))))
noncomputable def Uo (y2:Int) (s0_:(Int×(List Int))) (s1_:(Int×Int)):Option ((Int×Int) ⊕ Int) :=
 cond (decide (s1_.2 < (Int.tmod (IntKind.i64.wrap (s0_.1 * y2)) 64))) (some (.inl ((IntKind.u64.wrap (s1_.1 * 2)),(IntKind.i64.wrap (s1_.2+1))))) (some (.inr s1_.1))
noncomputable def Y3 (a0:Int) (a1:(List Int)) (y2:Int) (s0_:(Int×(List Int))):Option ((Int×(List Int)) ⊕ (Unit ⊕ (List Int))) :=
 cond (decide (s0_.1 < (a1.length:Int))) (((Z9 a1 s0_.1).bind fun x9=>(Jw a0 x9).bind fun y11=>cond (!y11) (some (.inr ())) ((Z6 (Uo y2 s0_) (x9,0)).bind fun (z13:Int)=>cond (decide (0 < y2)) ((Z9 s0_.2 (IntKind.i64.wrap (Int.tdiv (IntKind.i64.wrap (s0_.1 * y2)) 64))).bind fun x14=>some (.inl (Y5 s0_.2 (IntKind.i64.wrap (Int.tdiv (IntKind.i64.wrap (s0_.1 * y2)) 64)) (IntKind.u64.wrap (x14+z13))))) (some (.inl s0_.2)))).bind fun (z7:((List Int) ⊕ Unit))=>match z7 with | .inl z7=>some (.inl ((IntKind.i64.wrap (s0_.1+1)),z7)) | .inr z7=>some (.inr (.inl ()))) (some (.inr (.inr s0_.2)))
noncomputable def Ux (a0:Int) (a1:(List Int)):Option ((List Int)×Bool) :=
 (Y9 a0).bind fun y2=>cond (decide (y2 < 0)) (some (([]:(List Int)),false)) ((V4 a0 (a1.length:Int)).bind fun y5=>(Zix 8 y5 (0:Int)).bind fun l6=>(Z6 (Y3 a0 a1 y2) (0,l6)).bind fun (z20:(Unit ⊕ (List Int)))=>match z20 with | .inl z20=>some (([]:(List Int)),false) | .inr z20=>some (z20,true))
noncomputable def Za4 (a0:Zi) (s0_:(Int×Int×Int)):Option ((Int×Int×Int) ⊕ (Int×Int)) :=
 cond (decide (s0_.2.2 < (a0.Kids.length:Int))) ((Z9 a0.Kids s0_.2.2).bind fun x2=>some (.inl ((if s0_.1 < (x2.Words.length:Int) then (x2.Words.length:Int) else s0_.1),(if s0_.2.1 < (x2.Kids.length:Int) then (x2.Kids.length:Int) else s0_.2.1),(IntKind.i64.wrap (s0_.2.2+1))))) (some (.inr (s0_.1,s0_.2.1)))
noncomputable def Zib (a0:Zi):Option (Int×Int) :=
 (Z6 (Za4 a0) (0,0,0)).bind fun (z4:(Int×Int))=>some (z4.1,z4.2)
structure Z8 where
 Kind:Int
 Off:Int
 Data:Int
 Ptrs:Int
 Code:Int
 Count:Int
 Segment:Int
 Double:Bool
noncomputable def Znh (a0:Zi):Option Z8 :=
 cond (a0.Kind == 1) (some (⟨1,0,(a0.Words.length:Int),(a0.Kids.length:Int),0,0,0,false⟩:Z8)) (cond (a0.Kind == 9) ((Zib a0).bind fun y2=>some (⟨2,0,0,0,7,(IntKind.i64.wrap ((a0.Kids.length:Int) * (IntKind.i64.wrap (y2.1+y2.2)))),0,false⟩:Z8)) (some (⟨2,0,0,0,(IntKind.i64.wrap (a0.Kind - 2)),(a0.Kids.length:Int),0,false⟩:Z8)))
noncomputable def Zjm (a0:Int) (a1:Int):Option Int :=
 (Qz a0).bind fun y2=>cond (cond (cond (!y2.2) true (decide (a1 < 0))) true (decide (1099511627776 < a1))) (some 0) (some (IntKind.i64.wrap (Int.tdiv (IntKind.i64.wrap ((IntKind.i64.wrap (a1 * y2.1))+63)) 64)))
noncomputable def Za1 (a0:Int) (a1:(List Int)) (s0_:(Bool×Int)):Option ((Bool×Int) ⊕ Bool) :=
 cond (decide (s0_.2 < (a1.length:Int))) ((Z9 a1 s0_.2).bind fun x4=>cond s0_.1 ((Zjl a0 x4).bind fun y5=>some (.inl ((cond s0_.1 y5 false),(IntKind.i64.wrap (s0_.2+1))))) (some (.inl (false,(IntKind.i64.wrap (s0_.2+1)))))) (some (.inr s0_.1))
noncomputable def Gj (a1:(List Int)) (y2:(Int×Bool)) (s1_:(Int×(List Int))):Option ((Int×(List Int)) ⊕ (List Int)) :=
 cond (decide (s1_.1 < (a1.length:Int))) ((Z9 a1 s1_.1).bind fun x16=>(Y7 ((IntKind.i64.wrap (Int.tdiv 64 y2.1))≠0)).bind fun u17=>(Z9 s1_.2 (IntKind.i64.wrap (Int.tdiv s1_.1 (IntKind.i64.wrap (Int.tdiv 64 y2.1))))).bind fun x18=>(Y7 ((IntKind.i64.wrap (Int.tdiv 64 y2.1))≠0)).bind fun u19=>(Y7 (0≤(IntKind.i64.wrap ((Int.tmod s1_.1 (IntKind.i64.wrap (Int.tdiv 64 y2.1))) * y2.1)))).bind fun u20=>some (.inl ((IntKind.i64.wrap (s1_.1+1)),(Y5 s1_.2 (IntKind.i64.wrap (Int.tdiv s1_.1 (IntKind.i64.wrap (Int.tdiv 64 y2.1)))) (IntKind.u64.wrap (Zcd .u64 x18 (IntKind.u64.wrap (x16 * 2 ^ min (Int.toNat (IntKind.i64.wrap ((Int.tmod s1_.1 (IntKind.i64.wrap (Int.tdiv 64 y2.1))) * y2.1))) 64)))))))) (some (.inr s1_.2))
noncomputable def Zt5 (a0:Int) (a1:(List Int)):Option ((List Int)×Bool) :=
 (Qz a0).bind fun y2=>(Z6 (Za1 a0 a1) (y2.2,0)).bind fun (z8:Bool)=>cond (!z8) (some (([]:(List Int)),false)) ((Zjm a0 (a1.length:Int)).bind fun y11=>(Zix 8 y11 (0:Int)).bind fun l12=>cond (y2.1 == 0) (some (l12,true)) ((Y7 (y2.1≠0)).bind fun u14=>(Z6 (Gj a1 y2) (0,l12)).bind fun (z24:(List Int))=>some (z24,true)))
noncomputable def Zqb (a0:Z8):Option Int :=
 cond (a0.Kind == 1) (some (IntKind.u64.wrap (Zcd .u64 (IntKind.u64.wrap (Zcd .u64 (IntKind.u64.wrap (IntKind.u32.wrap ((IntKind.u32.wrap a0.Off) * 2 ^ min (Int.toNat 2) 32))) (IntKind.u64.wrap ((IntKind.u64.wrap a0.Data) * 2 ^ min (Int.toNat 32) 64)))) (IntKind.u64.wrap ((IntKind.u64.wrap a0.Ptrs) * 2 ^ min (Int.toNat 48) 64))))) (cond (a0.Kind == 2) (some (IntKind.u64.wrap (Zcd .u64 (IntKind.u64.wrap (Zcd .u64 (IntKind.u64.wrap (Zcd .u64 1 (IntKind.u64.wrap (IntKind.u32.wrap ((IntKind.u32.wrap a0.Off) * 2 ^ min (Int.toNat 2) 32))))) (IntKind.u64.wrap ((IntKind.u64.wrap a0.Code) * 2 ^ min (Int.toNat 32) 64)))) (IntKind.u64.wrap ((IntKind.u64.wrap a0.Count) * 2 ^ min (Int.toNat 35) 64))))) (cond (a0.Kind == 3) ((cond a0.Double (some (IntKind.u64.wrap (Zcd .u64 (IntKind.u64.wrap (Zcd .u64 (IntKind.u64.wrap (Zcd .u64 2 (IntKind.u64.wrap ((IntKind.u64.wrap a0.Off) * 2 ^ min (Int.toNat 3) 64)))) (IntKind.u64.wrap ((IntKind.u64.wrap a0.Segment) * 2 ^ min (Int.toNat 32) 64)))) 4))) (some (IntKind.u64.wrap (Zcd .u64 (IntKind.u64.wrap (Zcd .u64 2 (IntKind.u64.wrap ((IntKind.u64.wrap a0.Off) * 2 ^ min (Int.toNat 3) 64)))) (IntKind.u64.wrap ((IntKind.u64.wrap a0.Segment) * 2 ^ min (Int.toNat 32) 64)))))).bind fun (z1:Int)=>some z1) (some 0)))
noncomputable def Zb3 (a0:Int):Option Int :=
 some (IntKind.i64.wrap (Int.fdiv (IntKind.i32.wrap (IntKind.u32.wrap a0)) (2 ^ min (Int.toNat 2) 32)))
noncomputable def X8 (a0:Int) (a1:Int) (a2:Int):Option Int :=
 (Y7 (0≤a1)).bind fun u3=>(Y7 (0≤a2)).bind fun u4=>some (IntKind.i64.wrap (IntKind.u64.wrap (Gu .u64 (Int.fdiv a0 (2 ^ min (Int.toNat a1) 64)) (IntKind.u64.wrap ((IntKind.u64.wrap (1 * 2 ^ min (Int.toNat a2) 64)) - 1)))))
noncomputable def Jz (a0:Int):Option Z8 :=
 cond (a0 == 0) (some (⟨0,0,0,0,0,0,0,false⟩:Z8)) (cond ((IntKind.u64.wrap (Gu .u64 a0 3)) == 0) ((Zb3 a0).bind fun y4=>(X8 a0 32 16).bind fun y5=>(X8 a0 48 16).bind fun y6=>some (⟨1,y4,y5,y6,0,0,0,false⟩:Z8)) (cond ((IntKind.u64.wrap (Gu .u64 a0 3)) == 1) ((Zb3 a0).bind fun y10=>(X8 a0 32 3).bind fun y11=>(X8 a0 35 29).bind fun y12=>some (⟨2,y10,0,0,y11,y12,0,false⟩:Z8)) (cond ((IntKind.u64.wrap (Gu .u64 a0 3)) == 2) ((X8 a0 3 29).bind fun y15=>(X8 a0 32 32).bind fun y16=>some (⟨3,y15,0,0,0,0,y16,((IntKind.u64.wrap (Gu .u64 (Int.fdiv a0 (2 ^ min (Int.toNat 2) 64)) 1)) == 1)⟩:Z8)) (some (⟨4,0,0,0,0,0,0,false⟩:Z8)))))
noncomputable def Zan (a0:Z8):Option (Int×Bool) :=
 (Zqb a0).bind fun y2=>(cond (a0.Kind != 4) ((Jz y2).bind fun y6=>some (cond (a0.Kind != 4) ((y6.Kind == a0.Kind) && ((y6.Off == a0.Off) && ((y6.Data == a0.Data) && ((y6.Ptrs == a0.Ptrs) && ((y6.Code == a0.Code) && ((y6.Count == a0.Count) && ((y6.Segment == a0.Segment) && (y6.Double == a0.Double)))))))) false)) (some false)).bind fun (z4:Bool)=>some (y2,z4)
noncomputable def Zt4 (a0:Z8):Option Int :=
 (Zan a0).bind fun y2=>some y2.1
noncomputable def Zbm (a0:Int):Option Int :=
 ((some (⟨[0,1,8,16,32,64,64],rfl⟩:(Arr Int 7)))).bind fun y6=>((some (⟨[0,0,0,0,0,0,0],rfl⟩:(Arr Int 7)))).bind fun y8=>(Z9 y6.1 a0).bind fun x12=>some x12
noncomputable def Qr (a0:Z8):Option (Int×Bool) :=
 cond (a0.Kind == 1) (some ((IntKind.i64.wrap (a0.Data+a0.Ptrs)),true)) (cond (cond (a0.Kind == 2) (a0.Code == 7) false) (some ((IntKind.i64.wrap (a0.Count+1)),true)) (cond (cond (cond (cond (cond (a0.Kind == 2) (decide (0≤a0.Code)) false) (decide (a0.Code < 7)) false) (decide (0≤a0.Count)) false) (decide (a0.Count≤536870911)) false) ((Zbm a0.Code).bind fun y2=>some ((IntKind.i64.wrap (Int.tdiv (IntKind.i64.wrap ((IntKind.i64.wrap (a0.Count * y2))+63)) 64)),true)) (some (0,false))))
noncomputable def Gn (a0:Int) (a1:Int) (a2:Int) (a3:Int):Option Int :=
 (cond (decide ((IntKind.i64.wrap ((IntKind.i64.wrap (a1 - a0)) - 1)) < 0)) (some (IntKind.i64.wrap ((IntKind.i64.wrap ((IntKind.i64.wrap (a1 - a0)) - 1))+1073741824))) (some (IntKind.i64.wrap ((IntKind.i64.wrap (a1 - a0)) - 1)))).bind fun (z1:Int)=>some (IntKind.u64.wrap ((IntKind.u64.wrap ((IntKind.u64.wrap (IntKind.i64.wrap (4 * z1)))+a2))+(IntKind.u64.wrap (a3 * 4294967296))))
structure Zd where
 a:(Option Zr)
 kind:Int
 segment:Int
 at_:Int
 words:Int
 ptrs:Int
 count:Int
 code:Int
 index:Int
structure Zu where
 hash:Int
 r:Zd
structure Z3 where
 classes:(List Zu)
 places:(List Int)
noncomputable def Zam :Option Z3 :=
 some (⟨[],[]⟩:Z3)
noncomputable def Zfb (a0:(List (List Int))):Option (Option Zr) :=
 (Zaz a0).bind fun y2=>some (some (⟨y2,0,0⟩:Zr))
noncomputable def Vq (a0:(Option Zr)) (a1:Int) (a2:Int) (a3:Int):Option ((List Int)×Bool) :=
 (Ju a0 a1 a2 a3).bind fun y2=>cond (!y2) (some (([]:(List Int)),false)) ((a0).bind fun x7=>(Z9 x7.segments a1).bind fun x8=>(Zhj x8 a2 (IntKind.i64.wrap (a2+a3))).bind fun l9=>(Xf l9).bind fun y10=>some (y10,true))
structure Xr where
 P:Z8
 Segment:Int
 At:Int
noncomputable def Ga (a0:(Option Zr)) (a1:Z8) (a2:Int) (a3:Int):Option (Xr×Int) :=
 cond (a1.Kind == 4) (some ((⟨⟨0,0,0,0,0,0,0,false⟩,0,0⟩:Xr),9)) ((Qr a1).bind fun y2=>cond (!y2.2) (some ((⟨⟨0,0,0,0,0,0,0,false⟩,0,0⟩:Xr),8)) ((Ju a0 a2 a3 y2.1).bind fun y4=>cond (!y4) (some ((⟨⟨0,0,0,0,0,0,0,false⟩,0,0⟩:Xr),7)) (some ((⟨⟨a1.Kind,0,a1.Data,a1.Ptrs,a1.Code,a1.Count,a1.Segment,a1.Double⟩,a2,a3⟩:Xr),0))))
noncomputable def Zb1 (a0:(Option Zr)) (a1:Int) (a2:Int):Option (Xr×Int) :=
 (Vq a0 a1 a2 2).bind fun y2=>cond (!y2.2) (some ((⟨⟨0,0,0,0,0,0,0,false⟩,0,0⟩:Xr),7)) ((Z9 y2.1 0).bind fun x3=>(Jz x3).bind fun y4=>(Z9 y2.1 1).bind fun x5=>(Jz x5).bind fun y6=>cond (cond (y4.Kind != 3) true y4.Double) (some ((⟨⟨0,0,0,0,0,0,0,false⟩,0,0⟩:Xr),8)) (cond (cond (y6.Kind != 4) (y6.Off != 0) false) (some ((⟨⟨0,0,0,0,0,0,0,false⟩,0,0⟩:Xr),8)) ((Ga a0 y6 y4.Segment y4.Off).bind fun y8=>some (y8.1,y8.2))))
noncomputable def Zb2 (a0:(Option Zr)) (a1:Int) (a2:Int):Option (Xr×Int) :=
 (Qd a0 a1 a2).bind fun y2=>cond (!y2.2) (some ((⟨⟨0,0,0,0,0,0,0,false⟩,0,0⟩:Xr),7)) ((Jz y2.1).bind fun y4=>(Ga a0 y4 a1 (IntKind.i64.wrap ((IntKind.i64.wrap (a2+1))+y4.Off))).bind fun y6=>some (y6.1,y6.2))
noncomputable def Zb0 (a0:(Option Zr)) (a1:Int) (a2:Int):Option (Xr×Int) :=
 (Qd a0 a1 a2).bind fun y2=>cond (!y2.2) (some ((⟨⟨0,0,0,0,0,0,0,false⟩,0,0⟩:Xr),7)) ((Jz y2.1).bind fun y4=>cond (y4.Kind == 0) (some ((⟨⟨0,0,0,0,0,0,0,false⟩,0,0⟩:Xr),0)) (cond (cond (y4.Kind == 3) y4.Double false) ((Zb1 a0 y4.Segment y4.Off).bind fun y6=>some (y6.1,y6.2)) (cond (y4.Kind == 3) ((Zb2 a0 y4.Segment y4.Off).bind fun y8=>some (y8.1,y8.2)) ((Ga a0 y4 a1 (IntKind.i64.wrap ((IntKind.i64.wrap (a2+1))+y4.Off))).bind fun y10=>some (y10.1,y10.2)))))
noncomputable def Gb (a0:Zd):Option (Zd×Int) :=
 (Qd a0.a a0.segment a0.at_).bind fun y2=>(Jz y2.1).bind fun y4=>cond (cond (cond (cond (y4.Kind != 0) (y4.Kind != 1) false) true (decide (y4.Off < 0))) true (decide (a0.count < (IntKind.i64.wrap (y4.Off * (IntKind.i64.wrap (y4.Data+y4.Ptrs))))))) (some ((⟨(none:(Option Zr)),0,0,0,0,0,0,0,0⟩:Zd),8)) (some ((⟨a0.a,a0.kind,a0.segment,a0.at_,y4.Data,y4.Ptrs,y4.Off,a0.code,a0.index⟩:Zd),0))
noncomputable def G3 (a0:(Option Zr)) (a1:Int) (a2:Int):Option (Zd×Int) :=
 (Zb0 a0 a1 a2).bind fun y2=>cond (cond (y2.2 != 0) true (y2.1.P.Kind == 0)) (some ((⟨(none:(Option Zr)),0,0,0,0,0,0,0,0⟩:Zd),y2.2)) (cond (y2.1.P.Kind == 1) (some ((⟨a0,1,y2.1.Segment,y2.1.At,y2.1.P.Data,y2.1.P.Ptrs,0,0,0⟩:Zd),0)) (cond (y2.1.P.Code == 7) ((Gb (⟨a0,(IntKind.i64.wrap (y2.1.P.Code+2)),y2.1.Segment,y2.1.At,0,0,y2.1.P.Count,0,0⟩:Zd)).bind fun y4=>some (y4.1,y4.2)) (some ((⟨a0,(IntKind.i64.wrap (y2.1.P.Code+2)),y2.1.Segment,y2.1.At,0,0,y2.1.P.Count,0,0⟩:Zd),0))))
noncomputable def Za0 (a0:(Option Zr)):Option (Zd×Int) :=
 (G3 a0 0 0).bind fun y2=>some (y2.1,y2.2)
noncomputable def Jv (a0:(List (List Int))):Option Zd :=
 (Zfb a0).bind fun y3=>(Za0 y3).bind fun y4=>some y4.1
noncomputable def Q4 (a0:Zd):Option Int :=
 cond (a0.kind == 1) (some a0.ptrs) (some a0.count)
noncomputable def Qy (a0:Zd) (a1:Int):Option (Zd×Int) :=
 (cond (decide (a1 < 0)) (some true) ((Q4 a0).bind fun y4=>some (cond (decide (a1 < 0)) true (decide (y4≤a1))))).bind fun (z2:Bool)=>cond z2 (some ((⟨(none:(Option Zr)),0,0,0,0,0,0,0,0⟩:Zd),0)) (cond (a0.kind == 1) ((G3 a0.a a0.segment (IntKind.i64.wrap ((IntKind.i64.wrap (a0.at_+a0.words))+a1))).bind fun y7=>some (y7.1,y7.2)) (cond (a0.kind == 8) ((G3 a0.a a0.segment (IntKind.i64.wrap (a0.at_+a1))).bind fun y9=>some (y9.1,y9.2)) (cond (a0.kind == 9) (some ((⟨a0.a,1,a0.segment,(IntKind.i64.wrap ((IntKind.i64.wrap (a0.at_+1))+(IntKind.i64.wrap (a1 * (IntKind.i64.wrap (a0.words+a0.ptrs)))))),a0.words,a0.ptrs,0,0,0⟩:Zd),0)) (some ((⟨a0.a,10,a0.segment,a0.at_,0,0,0,(IntKind.i64.wrap (a0.kind - 2)),a1⟩:Zd),0)))))
noncomputable def Y8 (a0:Zd):Option Int :=
 some a0.kind
noncomputable def Zby (a0:Zd) (s0_:Int):Option (Int ⊕ ((Int×Int) ⊕ Unit)) :=
 cond (decide (0 < s0_)) ((Qy a0 (IntKind.i64.wrap (s0_ - 1))).bind fun y4=>(cond (y4.2 != 0) (some true) ((Y8 y4.1).bind fun y8=>some (cond (y4.2 != 0) true (y8 != 0)))).bind fun (z6:Bool)=>cond z6 (some (.inr (.inl (s0_,y4.2)))) (some (.inl (IntKind.i64.wrap (s0_ - 1))))) (some (.inr (.inr ())))
noncomputable def Zdm (a0:Zd):Option (Int×Int) :=
 (Q4 a0).bind fun y2=>(Z6 (Zby a0) y2).bind fun (z12:((Int×Int) ⊕ Unit))=>match z12 with | .inl z12=>some (z12.1,z12.2) | .inr z12=>some (0,0)
noncomputable def U9 (a0:Zd):Option (Int×Int) :=
 (Y8 a0).bind fun y2=>cond (y2 != 1) ((Q4 a0).bind fun y4=>some (y4,0)) ((Zdm a0).bind fun y6=>cond (y6.2 != 0) (some (0,y6.2)) (some (y6.1,0)))
structure Z7 where
 sum:Int
 left:Int
noncomputable def Qn (a0:Z7) (a1:Int):Option Z7 :=
 some (⟨(IntKind.u64.wrap (Zdl .u64 (IntKind.u64.wrap ((IntKind.u64.wrap (Zdl .u64 a0.sum a1)) * 11400714819323198485)) (Int.fdiv (IntKind.u64.wrap ((IntKind.u64.wrap (Zdl .u64 a0.sum a1)) * 11400714819323198485)) (2 ^ min (Int.toNat 32) 64)))),a0.left⟩:Z7)
noncomputable def Kl (a0:Zd):Option Int :=
 cond (a0.kind == 1) (some a0.words) (cond (a0.kind == 10) (some 1) (some 0))
noncomputable def Zfc (a0:(List Int)) (a1:Int) (a2:Int):Option Int :=
 (Qz a1).bind fun y2=>cond (cond (y2.1 == 0) true (decide (a2 < 0))) (some 0) ((Y7 (y2.1≠0)).bind fun u4=>(Y7 ((IntKind.i64.wrap (Int.tdiv 64 y2.1))≠0)).bind fun u6=>cond (decide ((a0.length:Int)≤(IntKind.i64.wrap (Int.tdiv a2 (IntKind.i64.wrap (Int.tdiv 64 y2.1)))))) (some 0) ((Y7 ((IntKind.i64.wrap (Int.tdiv 64 y2.1))≠0)).bind fun u12=>(Z9 a0 (IntKind.i64.wrap (Int.tdiv a2 (IntKind.i64.wrap (Int.tdiv 64 y2.1))))).bind fun x13=>(Y7 ((IntKind.i64.wrap (Int.tdiv 64 y2.1))≠0)).bind fun u14=>(Y7 (0≤(IntKind.i64.wrap ((Int.tmod a2 (IntKind.i64.wrap (Int.tdiv 64 y2.1))) * y2.1)))).bind fun u15=>(Y7 (0≤y2.1)).bind fun u16=>some (IntKind.u64.wrap (Gu .u64 (Int.fdiv x13 (2 ^ min (Int.toNat (IntKind.i64.wrap ((Int.tmod a2 (IntKind.i64.wrap (Int.tdiv 64 y2.1))) * y2.1))) 64)) (IntKind.u64.wrap ((IntKind.u64.wrap (1 * 2 ^ min (Int.toNat y2.1) 64)) - 1))))))
noncomputable def Vd (a0:Zd):Option Int :=
 (Qz a0.code).bind fun y2=>cond (y2.1 == 0) (some 0) ((Y7 (y2.1≠0)).bind fun u4=>(Y7 ((IntKind.i64.wrap (Int.tdiv 64 y2.1))≠0)).bind fun u7=>(Qd a0.a a0.segment (IntKind.i64.wrap (a0.at_+(IntKind.i64.wrap (Int.tdiv a0.index (IntKind.i64.wrap (Int.tdiv 64 y2.1))))))).bind fun y8=>(Y7 ((IntKind.i64.wrap (Int.tdiv 64 y2.1))≠0)).bind fun u11=>(Zfc ([y8.1]:List Int) a0.code (Int.tmod a0.index (IntKind.i64.wrap (Int.tdiv 64 y2.1)))).bind fun y12=>some y12)
noncomputable def Q5 (a0:Zd) (a1:Int):Option Int :=
 (cond (decide (a1 < 0)) (some true) ((Kl a0).bind fun y4=>some (cond (decide (a1 < 0)) true (decide (y4≤a1))))).bind fun (z2:Bool)=>cond z2 (some 0) (cond (a0.kind == 10) ((Vd a0).bind fun y7=>some y7) ((Qd a0.a a0.segment (IntKind.i64.wrap (a0.at_+a1))).bind fun y9=>some y9.1))
noncomputable def Zbx (a0:Zd) (s0_:Int):Option (Int ⊕ Int) :=
 (cond (decide (0 < s0_)) ((Q5 a0 (IntKind.i64.wrap (s0_ - 1))).bind fun y6=>some (cond (decide (0 < s0_)) (y6 == 0) false)) (some false)).bind fun (z4:Bool)=>cond z4 (some (.inl (IntKind.i64.wrap (s0_ - 1)))) (some (.inr s0_))
noncomputable def Gy (a0:Zd):Option Int :=
 (Kl a0).bind fun y2=>(Z6 (Zbx a0) y2).bind fun (z9:Int)=>some z9
noncomputable def Xt (a0:Zd) (y2:Int) (s0_:(Int×Int×Int)):Option ((Int×Int×Int) ⊕ (Int×Int)) :=
 cond (decide (s0_.1 < y2)) ((Q5 a0 s0_.1).bind fun y5=>(Qn (⟨s0_.2.1,s0_.2.2⟩:Z7) y5).bind fun y6=>some (.inl ((IntKind.i64.wrap (s0_.1+1)),y6.sum,y6.left))) (some (.inr (s0_.2.1,s0_.2.2)))
noncomputable def Qe (a0:Zd) (a2:Z7):Option Z7 :=
 (Gy a0).bind fun y2=>(Qn a2 (IntKind.u64.wrap y2)).bind fun y4=>(Z6 (Xt a0 y2) (0,y4.sum,y4.left)).bind fun (z8:(Int×Int))=>some (⟨z8.1,z8.2⟩:Z7)
noncomputable def Jh (Jq:(Z7→Zd→Option (Int×Z7))) (a1:Zd) (y2:(Int×Int)) (s0_:(Int×Int×Int)):Option ((Int×Int×Int) ⊕ ((Int×Int×Int) ⊕ (Int×Int))) :=
 cond (decide (s0_.1 < y2.1)) ((Qy a1 s0_.1).bind fun y12=>cond (y12.2 != 0) (some (.inr (.inl (y12.2,s0_.2.1,s0_.2.2)))) ((Jq (⟨s0_.2.1,s0_.2.2⟩:Z7) y12.1).bind fun y14=>cond (y14.1 != 0) (some (.inr (.inl (y14.1,y14.2.sum,y14.2.left)))) (some (.inl ((IntKind.i64.wrap (s0_.1+1)),y14.2.sum,y14.2.left))))) (some (.inr (.inr (s0_.2.1,s0_.2.2))))
noncomputable def Xy (Jq:(Z7→Zd→Option (Int×Z7))) (a0:Z7) (a1:Zd):Option (Int×Z7) :=
 cond (a0.left == 0) (some (3,a0)) ((U9 a1).bind fun y2=>cond (y2.2 != 0) (some (y2.2,(⟨a0.sum,(IntKind.i64.wrap (a0.left - 1))⟩:Z7))) ((Y8 a1).bind fun y5=>(Qn (⟨a0.sum,(IntKind.i64.wrap (a0.left - 1))⟩:Z7) (IntKind.u64.wrap y5)).bind fun y6=>(Qn y6 (IntKind.u64.wrap y2.1)).bind fun y8=>(Qe a1 y8).bind fun y10=>(Z6 (Jh Jq a1 y2) (0,y10.sum,y10.left)).bind fun (z18:((Int×Int×Int) ⊕ (Int×Int)))=>match z18 with | .inl z18=>some (z18.1,(⟨z18.2.1,z18.2.2⟩:Z7)) | .inr z18=>some (0,(⟨z18.1,z18.2⟩:Z7))))
noncomputable def Ys:Nat→(Z7→Zd→Option (Int×Z7))
 | 0=>(fun _ _=>none)
 | k+1=>Xy ((Ys k))
noncomputable def G0 (a0:Z7) (a1:Zd):Option (Int×Z7):=lim fun k=>(Ys k) a0 a1
noncomputable def Zbz (a0:Zd):Option (Int×Int) :=
 (G0 (⟨0,65537⟩:Z7) a0).bind fun y2=>cond (y2.1 != 0) (some (0,y2.1)) (some (y2.2.sum,0))
noncomputable def Qo (a0:(Option Z3)) (a1:Int):Option Int :=
 (a0).bind fun x3=>(Y7 ((IntKind.u64.wrap (x3.places.length:Int))≠0)).bind fun u4=>some (IntKind.i64.wrap (Int.tmod a1 (IntKind.u64.wrap (x3.places.length:Int))))
noncomputable def J7 (a0:(Option Z3)) (a1:Int):Option Int :=
 (a0).bind fun x3=>(Y7 ((x3.places.length:Int)≠0)).bind fun u4=>some (Int.tmod (IntKind.i64.wrap (a1+1)) (x3.places.length:Int))
noncomputable def Jy (a0:Z3) (s0_:(Int×(List Int))) (s1_:Int):Option (Int ⊕ Int) :=
 (Z9 s0_.2 s1_).bind fun x8=>cond (x8 != 0) ((J7 (some (⟨a0.classes,s0_.2⟩:Z3)) s1_).bind fun y9=>some (.inl y9)) (some (.inr s1_))
noncomputable def Jx (a0:Z3) (s0_:(Int×(List Int))):Option ((Int×(List Int)) ⊕ (List Int)) :=
 cond (decide (s0_.1 < (a0.classes.length:Int))) ((Z9 a0.classes s0_.1).bind fun x4=>(Qo (some (⟨a0.classes,s0_.2⟩:Z3)) x4.hash).bind fun y6=>(Z6 (Jy a0 s0_) y6).bind fun (z11:Int)=>(Z9 s0_.2 z11).bind fun x12=>some (.inl ((IntKind.i64.wrap (s0_.1+1)),(Y5 s0_.2 z11 (IntKind.i64.wrap (s0_.1+1)))))) (some (.inr s0_.2))
noncomputable def J6 (a0:Z3):Option Z3 :=
 (Zix 8 (if 16 < (IntKind.i64.wrap (2 * (a0.places.length:Int))) then (IntKind.i64.wrap (2 * (a0.places.length:Int))) else 16) (0:Int)).bind fun l2=>(Z6 (Jx a0) (0,l2)).bind fun (z15:(List Int))=>some (⟨a0.classes,z15⟩:Z3)
noncomputable def Kz (a0:Zd) (a1:Zd) (y2:Int) (s0_:Int):Option (Int ⊕ (Unit ⊕ Unit)) :=
 cond (decide (s0_ < y2)) ((Q5 a0 s0_).bind fun y7=>(Q5 a1 s0_).bind fun y8=>cond (y7 != y8) (some (.inr (.inl ()))) (some (.inl (IntKind.i64.wrap (s0_+1))))) (some (.inr (.inr ())))
noncomputable def V7 (a0:Zd) (a1:Zd):Option Bool :=
 (Gy a0).bind fun y2=>(Gy a1).bind fun y4=>cond (y4 != y2) (some false) ((Z6 (Kz a0 a1 y2) 0).bind fun (z11:(Unit ⊕ Unit))=>match z11 with | .inl z11=>some false | .inr z11=>some true)
structure Zs where
 left:Int
noncomputable def Xn (Yx:(Zs→Zd→Zd→Option (Bool×Int×Zs))) (Y0:(Zs→Zd→Zd→Int→Option (Bool×Int×Zs))) (a0:Zs) (a1:Zd) (a2:Zd):Option (Bool×Int×Zs) :=
 cond (a0.left == 0) (some (false,3,a0)) (((Y8 a1).bind fun y8=>(Y8 a2).bind fun y9=>cond (y8 != y9) (some true) ((V7 a1 a2).bind fun y10=>some (cond (y8 != y9) true (!y10)))).bind fun (z4:Bool)=>cond z4 (some (false,0,(⟨(IntKind.i64.wrap (a0.left - 1))⟩:Zs))) ((U9 a1).bind fun y13=>cond (y13.2 != 0) (some (false,y13.2,(⟨(IntKind.i64.wrap (a0.left - 1))⟩:Zs))) ((U9 a2).bind fun y15=>cond (cond (y15.2 != 0) true (y13.1 != y15.1)) (some (false,y15.2,(⟨(IntKind.i64.wrap (a0.left - 1))⟩:Zs))) ((Y0 (⟨(IntKind.i64.wrap (a0.left - 1))⟩:Zs) a1 a2 y13.1).bind fun y17=>some (y17.1,y17.2.1,y17.2.2)))))
noncomputable def Yy (Yx:(Zs→Zd→Zd→Option (Bool×Int×Zs))) (a1:Zd) (a2:Zd) (a3:Int) (s0_:(Int×Int)):Option ((Int×Int) ⊕ ((Int×Int) ⊕ Int)) :=
 cond (decide (s0_.1 < a3)) ((Qy a1 s0_.1).bind fun y2=>cond (y2.2 != 0) (some (.inr (.inl (y2.2,s0_.2)))) ((Qy a2 s0_.1).bind fun y4=>cond (y4.2 != 0) (some (.inr (.inl (y4.2,s0_.2)))) ((Yx (⟨s0_.2⟩:Zs) y2.1 y4.1).bind fun y6=>cond (cond (!y6.1) true (y6.2.1 != 0)) (some (.inr (.inl (y6.2.1,y6.2.2.left)))) (some (.inl ((IntKind.i64.wrap (s0_.1+1)),y6.2.2.left)))))) (some (.inr (.inr s0_.2)))
noncomputable def Yz (Yx:(Zs→Zd→Zd→Option (Bool×Int×Zs))) (Y0:(Zs→Zd→Zd→Int→Option (Bool×Int×Zs))) (a0:Zs) (a1:Zd) (a2:Zd) (a3:Int):Option (Bool×Int×Zs) :=
 (Z6 (Yy Yx a1 a2 a3) (0,a0.left)).bind fun (z11:((Int×Int) ⊕ Int))=>match z11 with | .inl z11=>some (false,z11.1,(⟨z11.2⟩:Zs)) | .inr z11=>some (true,0,(⟨z11⟩:Zs))
noncomputable def Z5:Nat→((Zs→Zd→Zd→Option (Bool×Int×Zs))×(Zs→Zd→Zd→Int→Option (Bool×Int×Zs)))
 | 0=>((fun _ _ _=>none),(fun _ _ _ _=>none))
 | k+1=>(Xn ((Z5 k).1) ((Z5 k).2),Yz ((Z5 k).1) ((Z5 k).2))
noncomputable def Gl (a0:Zs) (a1:Zd) (a2:Zd):Option (Bool×Int×Zs):=lim fun k=>(Z5 k).1 a0 a1 a2
noncomputable def Gz (a0:Zd) (a1:Zd):Option (Bool×Int) :=
 (Gl (⟨65537⟩:Zs) a0 a1).bind fun y2=>some (y2.1,y2.2.1)
noncomputable def K1 (a0:Zu) (a1:Zu):Option (Bool×Int) :=
 cond (a0.hash != a1.hash) (some (false,0)) ((Gz a0.r a1.r).bind fun y2=>some (y2.1,y2.2))
noncomputable def Yv (a1:Zu) (z1:((List Zu)×(List Int))) (s0_:Int):Option (Int ⊕ ((Int×Int) ⊕ Int)) :=
 (Z9 z1.2 s0_).bind fun x7=>cond (x7 != 0) ((Z9 z1.2 s0_).bind fun x9=>(Z9 z1.1 (IntKind.i64.wrap (x9 - 1))).bind fun x12=>(K1 x12 a1).bind fun y13=>cond (y13.2 != 0) (some (.inr (.inl (0,y13.2)))) (cond y13.1 (some (.inr (.inl ((IntKind.i64.wrap (x9 - 1)),0)))) ((J7 (some (⟨z1.1,z1.2⟩:Z3)) s0_).bind fun y14=>some (.inl y14)))) (some (.inr (.inr s0_)))
noncomputable def K0 (a0:Z3) (a1:Zu):Option (Int×Int×Z3) :=
 (cond (decide ((a0.places.length:Int)≤(IntKind.i64.wrap (2 * (a0.classes.length:Int))))) ((J6 (⟨a0.classes,a0.places⟩:Z3)).bind fun y2=>some (y2.classes,y2.places)) (some (a0.classes,a0.places))).bind fun (z1:((List Zu)×(List Int)))=>(Qo (some (⟨z1.1,z1.2⟩:Z3)) a1.hash).bind fun y5=>(Z6 (Yv a1 z1) y5).bind fun (z18:((Int×Int) ⊕ Int))=>match z18 with | .inl z18=>some (z18.1,z18.2,(⟨z1.1,z1.2⟩:Z3)) | .inr z18=>(Zeu 80 z1.1 ([a1]:List Zu)).bind fun l20=>(Z9 z1.2 z18).bind fun x23=>some ((IntKind.i64.wrap ((l20.length:Int) - 1)),0,(⟨l20,(Y5 z1.2 z18 (l20.length:Int))⟩:Z3))
noncomputable def Qw (a1:Zd) (y2:Int) (s0_:(Int×(List Zu))):Option ((Int×(List Zu)) ⊕ (Int ⊕ (List Zu))) :=
 cond (decide (s0_.1 < y2)) ((Qy a1 s0_.1).bind fun y4=>cond (y4.2 != 0) (some (.inr (.inl y4.2))) ((Zbz y4.1).bind fun y6=>cond (y6.2 != 0) (some (.inr (.inl y6.2))) ((Zeu 80 s0_.2 ([(⟨y6.1,y4.1⟩:Zu)]:List Zu)).bind fun l7=>some (.inl ((IntKind.i64.wrap (s0_.1+1)),l7))))) (some (.inr (.inr s0_.2)))
noncomputable def Qx (z11:(List Zu)) (s1_:(Int×(List Int)×(List Zu)×(List Int))):Option ((Int×(List Int)×(List Zu)×(List Int)) ⊕ ((Int×(List Zu)×(List Int)) ⊕ ((List Int)×(List Zu)×(List Int)))) :=
 cond (decide (s1_.1 < (z11.length:Int))) ((Z9 z11 s1_.1).bind fun x13=>(K0 (⟨s1_.2.2.1,s1_.2.2.2⟩:Z3) x13).bind fun y15=>cond (y15.2.1 != 0) (some (.inr (.inl (y15.2.1,y15.2.2.classes,y15.2.2.places)))) ((Zeu 8 s1_.2.1 ([y15.1]:List Int)).bind fun l16=>some (.inl ((IntKind.i64.wrap (s1_.1+1)),l16,y15.2.2.classes,y15.2.2.places)))) (some (.inr (.inr (s1_.2.1,s1_.2.2.1,s1_.2.2.2))))
noncomputable def Q2 (a0:Z3) (a1:Zd):Option ((List Int)×Int×Z3) :=
 (Q4 a1).bind fun y2=>(Z6 (Qw a1 y2) (0,([]:List Zu))).bind fun (z11:(Int ⊕ (List Zu)))=>match z11 with | .inl z11=>some (([]:(List Int)),z11,(⟨a0.classes,a0.places⟩:Z3)) | .inr z11=>(Z6 (Qx z11) (0,([]:List Int),a0.classes,a0.places)).bind fun (z19:((Int×(List Zu)×(List Int)) ⊕ ((List Int)×(List Zu)×(List Int))))=>match z19 with | .inl z19=>some (([]:(List Int)),z19.1,(⟨z19.2.1,z19.2.2⟩:Z3)) | .inr z19=>some (z19.1,0,(⟨z19.2.1,z19.2.2⟩:Z3))
noncomputable def Kp (a0:(List Int)) (a1:(List Int)) (s0_:Int):Option (Int ⊕ (Unit ⊕ Unit)) :=
 cond (decide (s0_ < (a0.length:Int))) ((Z9 a0 s0_).bind fun x3=>(Z9 a1 s0_).bind fun x4=>cond (x3 != x4) (some (.inr (.inl ()))) (some (.inl (IntKind.i64.wrap (s0_+1))))) (some (.inr (.inr ())))
noncomputable def Xb (a0:(List Int)) (a1:(List Int)):Option Bool :=
 cond ((a0.length:Int) != (a1.length:Int)) (some false) ((Z6 (Kp a0 a1) 0).bind fun (z7:(Unit ⊕ Unit))=>match z7 with | .inl z7=>some false | .inr z7=>some true)
noncomputable def Kk (a0:(Option Z3)):Option Int :=
 cond (Option.isNone a0) (some 0) ((a0).bind fun x4=>some (x4.classes.length:Int))
noncomputable def Qm :Option Bool :=
 (Zam).bind fun y2=>(Jv ([([111669149697,329477]:List Int)]:List (List Int))).bind fun y5=>(Q2 (⟨y2.classes,y2.places⟩:Z3) y5).bind fun y6=>(cond (y6.2.1 == 0) ((Xb y6.1 ([0,1,0]:List Int)).bind fun y12=>cond y12 ((Kk (some (⟨y6.2.2.classes,y6.2.2.places⟩:Z3))).bind fun y13=>some (cond (cond (y6.2.1 == 0) y12 false) (y13 == 2) false)) (some false)) (some false)).bind fun (z9:Bool)=>some z9
noncomputable def X7 (a0:Int) (a1:Int):Option Int :=
 cond (decide (a0 < 0)) (some 0) (cond (decide (a1 < a0)) (some a1) (some a0))
structure Yg where
 Depth:Int
 Weight:Int
 MaxD:Int
 MaxOut:Int
noncomputable def Vc (a0:Yg):Option Yg :=
 (X7 a0.Depth 64).bind fun y5=>(X7 a0.Weight 65536).bind fun y6=>(X7 a0.MaxD 4096).bind fun y7=>(X7 a0.MaxOut 131072).bind fun y8=>some (⟨y5,y6,y7,y8⟩:Yg)
noncomputable def Ji (a0:(List (List Int))) (a1:Int) (a2:Int):Option Bool :=
 (cond (decide (0≤a1)) (cond (decide (a1 < (a0.length:Int))) (cond (decide (0≤a2)) ((Z9 a0 a1).bind fun x4=>some (cond (cond (cond (decide (0≤a1)) (decide (a1 < (a0.length:Int))) false) (decide (0≤a2)) false) (decide (a2 < (x4.length:Int))) false)) (some false)) (some false)) (some false)).bind fun (z2:Bool)=>some z2
noncomputable def Vw (a1:Int) (s0_:(Int×Int)):Option ((Int×Int) ⊕ Int) :=
 cond (decide (s0_.2 < a1)) (some (.inl ((IntKind.u64.wrap (Int.tdiv s0_.1 2)),(IntKind.i64.wrap (s0_.2+1))))) (some (.inr s0_.1))
noncomputable def Vx (a2:Int) (s1_:(Int×Int×Int×Int)):Option ((Int×Int×Int×Int) ⊕ Int) :=
 cond (decide (s1_.2.2.2 < a2)) ((cond ((Int.tmod s1_.1 2) == 1) (some (IntKind.i64.wrap (s1_.2.1+s1_.2.2.1))) (some s1_.2.1)).bind fun (z3:Int)=>some (.inl ((IntKind.u64.wrap (Int.tdiv s1_.1 2)),z3,(IntKind.i64.wrap (2 * s1_.2.2.1)),(IntKind.i64.wrap (s1_.2.2.2+1))))) (some (.inr s1_.2.1))
noncomputable def Yb (a0:Int) (a1:Int) (a2:Int):Option Int :=
 (Z6 (Vw a1) (a0,0)).bind fun (z2:Int)=>(Z6 (Vx a2) (z2,0,1,0)).bind fun (z6:Int)=>some z6
noncomputable def Xd (a0:Int):Option Z8 :=
 cond (a0 == 0) (some (⟨0,0,0,0,0,0,0,false⟩:Z8)) ((Yb a0 2 30).bind fun y2=>(cond (decide (536870912≤y2)) (some (IntKind.i64.wrap (y2 - 1073741824))) (some y2)).bind fun (z3:Int)=>(Yb a0 0 2).bind fun y6=>cond (y6 == 0) ((Yb a0 32 16).bind fun y9=>(Yb a0 48 16).bind fun y10=>some (⟨1,z3,y9,y10,0,0,0,false⟩:Z8)) (cond (y6 == 1) ((Yb a0 32 3).bind fun y13=>(Yb a0 35 29).bind fun y14=>some (⟨2,z3,0,0,y13,y14,0,false⟩:Z8)) (cond (y6 == 2) ((Yb a0 3 29).bind fun y18=>(Yb a0 32 32).bind fun y19=>(Yb a0 2 1).bind fun y20=>some (⟨3,y18,0,0,0,0,y19,(y20 == 1)⟩:Z8)) (some (⟨4,0,0,0,0,0,0,false⟩:Z8)))))
noncomputable def Jc (a0:Z8):Option Int :=
 cond (a0.Kind == 4) (some 9) (cond (cond (a0.Kind != 1) (a0.Kind != 2) false) (some 8) (some 0))
noncomputable def Vr (a0:Z8):Option Int :=
 cond (a0.Kind == 1) (some (IntKind.i64.wrap (a0.Data+a0.Ptrs))) (cond (a0.Kind != 2) (some (-1)) (cond (a0.Code == 7) (some (IntKind.i64.wrap (a0.Count+1))) (cond (cond (cond (cond (decide (a0.Code < 0)) true (decide (6 < a0.Code))) true (decide (a0.Count < 0))) true (decide (536870912≤a0.Count))) (some (-1)) ((cond (a0.Code == 0) (some (.inr ())) (cond (a0.Code == 1) (some (.inl 64)) (cond (a0.Code == 2) (some (.inl 8)) (cond (a0.Code == 3) (some (.inl 4)) (cond (a0.Code == 4) (some (.inl 2)) (some (.inl 1))))))).bind fun (z1:(Int ⊕ Unit))=>match z1 with | .inl z1=>(Y7 (z1≠0)).bind fun u8=>cond (decide (0 < (Int.tmod a0.Count z1))) ((Y7 (z1≠0)).bind fun u10=>some (IntKind.i64.wrap ((IntKind.i64.wrap (Int.tdiv a0.Count z1))+1))) ((Y7 (z1≠0)).bind fun u12=>some (IntKind.i64.wrap (Int.tdiv a0.Count z1))) | .inr z1=>some 0))))
structure Yd where
 P:Z8
 Segment:Int
 At:Int
noncomputable def Jd (a0:(List (List Int))) (a1:Yd):Option (Yd×Int) :=
 (Vr a1.P).bind fun y2=>(cond (decide (a1.Segment < 0)) (some true) (cond (decide ((a0.length:Int)≤a1.Segment)) (some true) (cond (decide (a1.At < 0)) (some true) ((Z9 a0 a1.Segment).bind fun x8=>cond (decide ((x8.length:Int) < a1.At)) (some true) (some (cond (cond (cond (cond (decide (a1.Segment < 0)) true (decide ((a0.length:Int)≤a1.Segment))) true (decide (a1.At < 0))) true (decide ((x8.length:Int) < a1.At))) true (decide ((IntKind.i64.wrap ((x8.length:Int) - a1.At)) < y2)))))))).bind fun (z5:Bool)=>cond z5 (some ((⟨⟨0,0,0,0,0,0,0,false⟩,0,0⟩:Yd),7)) (some ((⟨⟨a1.P.Kind,0,a1.P.Data,a1.P.Ptrs,a1.P.Code,a1.P.Count,a1.P.Segment,a1.P.Double⟩,a1.Segment,a1.At⟩:Yd),0))
noncomputable def J5 (a0:(List (List Int))) (a1:Int) (a2:Int):Option (Yd×Int) :=
 (Ji a0 a1 a2).bind fun y2=>cond (!y2) (some ((⟨⟨0,0,0,0,0,0,0,false⟩,0,0⟩:Yd),7)) ((Z9 a0 a1).bind fun x6=>(Z9 x6 a2).bind fun x7=>(Xd x7).bind fun y8=>cond (y8.Kind == 0) (some ((⟨⟨0,0,0,0,0,0,0,false⟩,0,0⟩:Yd),0)) (cond (cond (y8.Kind == 3) y8.Double false) (((Ji a0 y8.Segment y8.Off).bind fun y14=>cond y14 ((Ji a0 y8.Segment (IntKind.i64.wrap (y8.Off+1))).bind fun y15=>some (cond (!y14) true (!y15))) (some true)).bind fun (z11:Bool)=>cond z11 (some ((⟨⟨0,0,0,0,0,0,0,false⟩,0,0⟩:Yd),7)) ((Z9 a0 y8.Segment).bind fun x17=>(Z9 x17 y8.Off).bind fun x18=>(Xd x18).bind fun y19=>(Z9 x17 (IntKind.i64.wrap (y8.Off+1))).bind fun x21=>(Xd x21).bind fun y22=>cond (cond (y19.Kind != 3) true y19.Double) (some ((⟨⟨0,0,0,0,0,0,0,false⟩,0,0⟩:Yd),8)) ((Jc y22).bind fun y24=>(cond (cond (y24 == 0) (y22.Off != 0) false) (some 8) (some y24)).bind fun (z25:Int)=>cond (z25 != 0) (some ((⟨⟨0,0,0,0,0,0,0,false⟩,0,0⟩:Yd),z25)) ((Jd a0 (⟨y22,y19.Segment,y19.Off⟩:Yd)).bind fun y28=>some (y28.1,y28.2))))) ((cond (y8.Kind == 3) ((Ji a0 y8.Segment y8.Off).bind fun y34=>cond (!y34) (some (.inr ())) ((Z9 a0 y8.Segment).bind fun x35=>(Z9 x35 y8.Off).bind fun x36=>(Xd x36).bind fun y37=>some (.inl (y8.Segment,y8.Off,y37.Kind,y37.Off,y37.Data,y37.Ptrs,y37.Code,y37.Count,y37.Segment,y37.Double)))) (some (.inl (a1,a2,y8.Kind,y8.Off,y8.Data,y8.Ptrs,y8.Code,y8.Count,y8.Segment,y8.Double)))).bind fun (z32:((Int×Int×Int×Int×Int×Int×Int×Int×Int×Bool) ⊕ Unit))=>match z32 with | .inl z32=>(Jc (⟨z32.2.2.1,z32.2.2.2.1,z32.2.2.2.2.1,z32.2.2.2.2.2.1,z32.2.2.2.2.2.2.1,z32.2.2.2.2.2.2.2.1,z32.2.2.2.2.2.2.2.2.1,z32.2.2.2.2.2.2.2.2.2⟩:Z8)).bind fun y41=>cond (y41 != 0) (some ((⟨⟨0,0,0,0,0,0,0,false⟩,0,0⟩:Yd),y41)) ((Jd a0 (⟨⟨z32.2.2.1,z32.2.2.2.1,z32.2.2.2.2.1,z32.2.2.2.2.2.1,z32.2.2.2.2.2.2.1,z32.2.2.2.2.2.2.2.1,z32.2.2.2.2.2.2.2.2.1,z32.2.2.2.2.2.2.2.2.2⟩,z32.1,(IntKind.i64.wrap ((IntKind.i64.wrap (z32.2.1+1))+z32.2.2.2.1))⟩:Yd)).bind fun y43=>some (y43.1,y43.2)) | .inr z32=>some ((⟨⟨0,0,0,0,0,0,0,false⟩,0,0⟩:Yd),7))))
structure Zw where
 Kind:Int
 S:Int
 At:Int
 Data:Int
 Ptrs:Int
 Count:Int
 N:Int
noncomputable def Va (a0:(List (List Int))) (a1:Int) (a2:Int):Option (Zw×Int) :=
 (J5 a0 a1 a2).bind fun y2=>cond (cond (y2.2 != 0) true (y2.1.P.Kind == 0)) (some ((⟨0,0,0,0,0,0,0⟩:Zw),y2.2)) (cond (y2.1.P.Kind == 1) (some ((⟨1,y2.1.Segment,y2.1.At,y2.1.P.Data,y2.1.P.Ptrs,0,0⟩:Zw),0)) (cond (decide (y2.1.P.Code < 7)) (some ((⟨(IntKind.i64.wrap (2+y2.1.P.Code)),y2.1.Segment,y2.1.At,0,0,y2.1.P.Count,0⟩:Zw),0)) ((Z9 a0 y2.1.Segment).bind fun x5=>(Z9 x5 y2.1.At).bind fun x6=>(Xd x6).bind fun y8=>cond (cond (cond (cond (x6 != 0) (y8.Kind != 1) false) true (decide (y8.Off < 0))) true (decide (y2.1.P.Count < (IntKind.i64.wrap (y8.Off * (IntKind.i64.wrap (y8.Data+y8.Ptrs))))))) (some ((⟨0,0,0,0,0,0,0⟩:Zw),8)) (some ((⟨9,y2.1.Segment,(IntKind.i64.wrap (y2.1.At+1)),y8.Data,y8.Ptrs,y8.Off,0⟩:Zw),0)))))
noncomputable def X1 (a0:Zw) (a1:(List (List Int))):Option (List Int) :=
 cond (a0.Kind == 10) (some ([a0.N]:List Int)) (cond (a0.Kind != 1) (some ([]:(List Int))) ((Z9 a1 a0.S).bind fun x4=>(Zhj x4 a0.At (IntKind.i64.wrap (a0.At+a0.Data))).bind fun l5=>(Zeu 8 ([]:List Int) l5).bind fun l6=>some l6))
noncomputable def Qb (a0:Zw):Option Int :=
 cond (a0.Kind == 1) (some a0.Ptrs) (some a0.Count)
noncomputable def J3 (a1:Int) (s0_:(Int×Int)):Option ((Int×Int) ⊕ Int) :=
 cond (decide (s0_.2 < (Int.tmod a1 64))) (some (.inl ((IntKind.u64.wrap (Int.tdiv s0_.1 2)),(IntKind.i64.wrap (s0_.2+1))))) (some (.inr s0_.1))
noncomputable def Uv (a0:(List Int)) (a1:Int):Option Int :=
 cond (cond (decide (a1 < 0)) true (decide ((a0.length:Int)≤(IntKind.i64.wrap (Int.tdiv a1 64))))) (some 0) ((Z9 a0 (IntKind.i64.wrap (Int.tdiv a1 64))).bind fun x2=>(Z6 (J3 a1) (x2,0)).bind fun (z4:Int)=>some (Int.tmod z4 2))
noncomputable def J4 (a0:(List Int)) (a2:Int) (y2:Int) (s0_:(Int×Int)):Option ((Int×Int) ⊕ Int) :=
 cond (decide (0≤s0_.2)) ((Uv a0 (IntKind.i64.wrap ((IntKind.i64.wrap (a2 * y2))+s0_.2))).bind fun y3=>some (.inl ((IntKind.u64.wrap ((IntKind.u64.wrap (s0_.1 * 2))+y3)),(IntKind.i64.wrap (s0_.2 - 1))))) (some (.inr s0_.1))
noncomputable def Uw (a0:(List Int)) (a1:Int) (a2:Int):Option Int :=
 (Y9 a1).bind fun y2=>cond (cond (cond (decide (y2 < 1)) true (decide (a2 < 0))) true (decide (1099511627776 < a2))) (some 0) ((Z6 (J4 a0 a2 y2) (0,(IntKind.i64.wrap (y2 - 1)))).bind fun (z5:Int)=>some z5)
noncomputable def Jj (a0:Zw) (a1:(List (List Int))) (a2:Int):Option (Zw×Int) :=
 (cond (decide (a2 < 0)) (some true) ((Qb a0).bind fun y4=>some (cond (decide (a2 < 0)) true (decide (y4≤a2))))).bind fun (z2:Bool)=>cond z2 (some ((⟨0,0,0,0,0,0,0⟩:Zw),0)) (cond (a0.Kind == 1) ((Va a1 a0.S (IntKind.i64.wrap ((IntKind.i64.wrap (a0.At+a0.Data))+a2))).bind fun y7=>some (y7.1,y7.2)) (cond (a0.Kind == 8) ((Va a1 a0.S (IntKind.i64.wrap (a0.At+a2))).bind fun y9=>some (y9.1,y9.2)) (cond (a0.Kind == 9) (some ((⟨1,a0.S,(IntKind.i64.wrap (a0.At+(IntKind.i64.wrap (a2 * (IntKind.i64.wrap (a0.Data+a0.Ptrs)))))),a0.Data,a0.Ptrs,0,0⟩:Zw),0)) ((Z9 a1 a0.S).bind fun x13=>(Zhj x13 a0.At (x13.length:Int)).bind fun l14=>(Uw l14 (IntKind.i64.wrap (a0.Kind - 2)) a2).bind fun y15=>some ((⟨10,0,0,0,0,0,y15⟩:Zw),0)))))
noncomputable def Jg (Yq:((List (List Int))→Zw→Int→Int→Option (Zi×Int×Int))) (Xv:((List (List Int))→Zw→Int→Int→Option (Zi×Int×Int))) (a0:(List (List Int))) (a1:Zw) (a2:Int) (s0_:(Int×Int×(List Zi))):Option ((Int×Int×(List Zi)) ⊕ ((Int×Int×(List Zi)) ⊕ (Int×(List Zi)))) :=
 (Qb a1).bind fun y10=>cond (decide (s0_.2.1 < y10)) ((Jj a1 a0 s0_.2.1).bind fun y12=>cond (y12.2 != 0) (some (.inr (.inl (s0_.1,y12.2,s0_.2.2)))) ((X1 y12.1 a0).bind fun y14=>(cond (a1.Kind == 9) ((Xv a0 y12.1 (IntKind.i64.wrap (a2 - 2)) s0_.1).bind fun y16=>some (y16.2.1,y16.2.2,y16.1.Kind,y16.1.Words,y16.1.Kids)) (cond (cond (a1.Kind == 1) true (a1.Kind == 8)) ((Yq a0 y12.1 (IntKind.i64.wrap (a2 - 1)) s0_.1).bind fun y17=>some (y17.2.1,y17.2.2,y17.1.Kind,y17.1.Words,y17.1.Kids)) (some (s0_.1,y12.2,y12.1.Kind,y14,([]:(List Zi)))))).bind fun (z15:(Int×Int×Int×(List Int)×(List Zi)))=>cond (z15.2.1 != 0) (some (.inr (.inl (z15.1,z15.2.1,s0_.2.2)))) ((Zeu 56 s0_.2.2 ([(⟨z15.2.2.1,z15.2.2.2.1,z15.2.2.2.2⟩:Zi)]:List Zi)).bind fun l20=>some (.inl (z15.1,(IntKind.i64.wrap (s0_.2.1+1)),l20))))) (some (.inr (.inr (s0_.1,s0_.2.2))))
noncomputable def Jf (Yq:((List (List Int))→Zw→Int→Int→Option (Zi×Int×Int))) (Xv:((List (List Int))→Zw→Int→Int→Option (Zi×Int×Int))) (a0:(List (List Int))) (a1:Zw) (a2:Int) (a3:Int):Option (Zi×Int×Int) :=
 (X1 a1 a0).bind fun y2=>cond (a1.Kind == 0) (some ((⟨a1.Kind,y2,[]⟩:Zi),a3,0)) (cond (cond (decide (a2 < 1)) true (cond (cond (a1.Kind == 9) (decide (0 < a1.Count)) false) (decide (a2 < 2)) false)) (some ((⟨a1.Kind,y2,[]⟩:Zi),a3,3)) ((Qb a1).bind fun y4=>(cond (a1.Kind == 1) (some (IntKind.i64.wrap ((IntKind.i64.wrap (1+a1.Data))+a1.Ptrs))) (some (IntKind.i64.wrap (1+y4)))).bind fun (z5:Int)=>(cond (a1.Kind == 9) (some (IntKind.i64.wrap (1+(IntKind.i64.wrap (a1.Count * (IntKind.i64.wrap ((IntKind.i64.wrap (1+a1.Data))+a1.Ptrs))))))) (some z5)).bind fun (z7:Int)=>cond (decide (a3 < z7)) (some ((⟨a1.Kind,y2,[]⟩:Zi),a3,3)) ((Z6 (Jg Yq Xv a0 a1 a2) ((IntKind.i64.wrap (a3 - z7)),0,([]:List Zi))).bind fun (z24:((Int×Int×(List Zi)) ⊕ (Int×(List Zi))))=>match z24 with | .inl z24=>some ((⟨a1.Kind,y2,z24.2.2⟩:Zi),z24.1,z24.2.1) | .inr z24=>some ((⟨a1.Kind,y2,z24.2⟩:Zi),z24.1,0))))
noncomputable def Ks (Yq:((List (List Int))→Zw→Int→Int→Option (Zi×Int×Int))) (a0:(List (List Int))) (a1:Zw) (a2:Int) (s0_:(Int×Int×(List Zi))):Option ((Int×Int×(List Zi)) ⊕ ((Int×Int×(List Zi)) ⊕ (Int×(List Zi)))) :=
 cond (decide (s0_.2.1 < a1.Ptrs)) ((Jj a1 a0 s0_.2.1).bind fun y4=>cond (y4.2 != 0) (some (.inr (.inl (s0_.1,y4.2,s0_.2.2)))) ((Yq a0 y4.1 a2 s0_.1).bind fun y6=>cond (y6.2.2 != 0) (some (.inr (.inl (y6.2.1,y6.2.2,s0_.2.2)))) ((Zeu 56 s0_.2.2 ([y6.1]:List Zi)).bind fun l7=>some (.inl (y6.2.1,(IntKind.i64.wrap (s0_.2.1+1)),l7))))) (some (.inr (.inr (s0_.1,s0_.2.2))))
noncomputable def K3 (Yq:((List (List Int))→Zw→Int→Int→Option (Zi×Int×Int))) (Xv:((List (List Int))→Zw→Int→Int→Option (Zi×Int×Int))) (a0:(List (List Int))) (a1:Zw) (a2:Int) (a3:Int):Option (Zi×Int×Int) :=
 (X1 a1 a0).bind fun y2=>(Z6 (Ks Yq a0 a1 a2) (a3,0,([]:List Zi))).bind fun (z11:((Int×Int×(List Zi)) ⊕ (Int×(List Zi))))=>match z11 with | .inl z11=>some ((⟨1,y2,z11.2.2⟩:Zi),z11.1,z11.2.1) | .inr z11=>some ((⟨1,y2,z11.2⟩:Zi),z11.1,0)
noncomputable def Yn:Nat→(((List (List Int))→Zw→Int→Int→Option (Zi×Int×Int))×((List (List Int))→Zw→Int→Int→Option (Zi×Int×Int)))
 | 0=>((fun _ _ _ _=>none),(fun _ _ _ _=>none))
 | k+1=>(Jf ((Yn k).1) ((Yn k).2),K3 ((Yn k).1) ((Yn k).2))
noncomputable def Gx (a0:(List (List Int))) (a1:Zw) (a2:Int) (a3:Int):Option (Zi×Int×Int):=lim fun k=>(Yn k).1 a0 a1 a2 a3
noncomputable def X6 (a0:(List (List Int))) (a1:Yg):Option (Zi×Int×Int) :=
 (Vc a1).bind fun y2=>(Va a0 0 0).bind fun y4=>cond (y4.2 != 0) (some ((⟨0,[],[]⟩:Zi),0,y4.2)) ((Gx a0 y4.1 y2.Depth y2.Weight).bind fun y6=>cond (y6.2.2 != 0) (some ((⟨0,[],[]⟩:Zi),0,y6.2.2)) (some (y6.1,(IntKind.i64.wrap (y2.Weight - y6.2.1)),0)))
noncomputable def Kr (K7:(Zi→Zi→Option Bool)) (a0:Zi) (a1:Zi) (s0_:Int):Option (Int ⊕ (Unit ⊕ Unit)) :=
 cond (decide (s0_ < (a0.Kids.length:Int))) ((Z9 a0.Kids s0_).bind fun x9=>(Z9 a1.Kids s0_).bind fun x10=>(K7 x9 x10).bind fun y11=>cond (!y11) (some (.inr (.inl ()))) (some (.inl (IntKind.i64.wrap (s0_+1))))) (some (.inr (.inr ())))
noncomputable def V2 (K7:(Zi→Zi→Option Bool)) (a0:Zi) (a1:Zi):Option Bool :=
 (cond (a0.Kind != a1.Kind) (some true) ((V5 a0.Words a1.Words).bind fun y4=>some (cond (cond (a0.Kind != a1.Kind) true (!y4)) true ((a0.Kids.length:Int) != (a1.Kids.length:Int))))).bind fun (z2:Bool)=>cond z2 (some false) ((Z6 (Kr K7 a0 a1) 0).bind fun (z14:(Unit ⊕ Unit))=>match z14 with | .inl z14=>some false | .inr z14=>some true)
noncomputable def Jb:Nat→(Zi→Zi→Option Bool)
 | 0=>(fun _ _=>none)
 | k+1=>V2 ((Jb k))
noncomputable def Zbw (a0:Zi) (a1:Zi):Option Bool:=lim fun k=>(Jb k) a0 a1
noncomputable def Yw (a0:(List Zi)) (y2:Zi) (s0_:Int):Option (Int ⊕ (Int ⊕ Unit)) :=
 cond (decide (s0_ < (a0.length:Int))) ((Z9 a0 s0_).bind fun x5=>(Zbw x5 y2).bind fun y6=>cond y6 (some (.inr (.inl s0_))) (some (.inl (IntKind.i64.wrap (s0_+1))))) (some (.inr (.inr ())))
noncomputable def Vs (a0:(List Zi)) (a1:Zi):Option ((List Zi)×Int) :=
 (Zbv a1).bind fun y2=>(Z6 (Yw a0 y2) 0).bind fun (z9:(Int ⊕ Unit))=>match z9 with | .inl z9=>some (a0,z9) | .inr z9=>(Zeu 56 a0 ([y2]:List Zi)).bind fun l11=>some (l11,(a0.length:Int))
noncomputable def Qg (a1:(List Zi)) (s0_:(Int×(List Zi)×(List Int))):Option ((Int×(List Zi)×(List Int)) ⊕ ((List Zi)×(List Int))) :=
 cond (decide (s0_.1 < (a1.length:Int))) ((Z9 a1 s0_.1).bind fun x3=>(Vs s0_.2.1 x3).bind fun y4=>(Zeu 8 s0_.2.2 ([y4.2]:List Int)).bind fun l5=>some (.inl ((IntKind.i64.wrap (s0_.1+1)),y4.1,l5))) (some (.inr (s0_.2.1,s0_.2.2)))
noncomputable def Jk (a0:(List Zi)) (a1:(List Zi)):Option ((List Zi)×(List Int)) :=
 (Z6 (Qg a1) (0,a0,([]:List Int))).bind fun (z7:((List Zi)×(List Int)))=>some (z7.1,z7.2)
def Zx (x:Zr):List G:=[.sl x.segments.length (fl (eL (eI .u64)) x.segments),.val (.int .i64 x.size),.val (.int .i64 x.left)]
theorem Zg7:∀ x,G.pures ((eI .u64) x)=true:=fun x=>by simp [eI,eB,eS,eL,eP,G.pures,G.pure]
theorem Zbc {O O':Objs} {n:Nat} (xs:List Int):wkl O O' n (fl (eI .u64) xs) (fl (eI .u64) xs):=Zj9 (Jo Zg7 xs)
theorem Zux {O O':Objs} {n:Nat} (xs:List Int) (b b':List G):wkl O O' n (fl (eI .u64) xs++b) (fl (eI .u64) xs++b')=wkl O O' n b b':=Zka b b' _ (Jo Zg7 xs)
theorem Ztv (xs:List Int):(fl (eI .u64) xs).length=xs.length * 1:=Gi (f:=(eI .u64)) (k:=1) (fun _=>rfl) xs
theorem Zub (xs:List Int):(fl (eI .u64) xs).all G.one=true:=Znr (fun x=>by simp [eI,eB,eS,eL,eP,G.one,Value.oneCell']) xs
theorem Zfw {ρ:Nat→Nat} (xs:List Int):G.rens ρ (fl (eI .u64) xs)=fl (eI .u64) xs:=U0 ρ _ (Jo Zg7 xs)
theorem Zad {k:Nat} (xs:List Int):G.unders k (fl (eI .u64) xs)=true:=Ub _ _ (Jo Zg7 xs)
theorem Zpl:∀ x,G.pures ((eL (eI .u64)) x)=true:=fun x=>by simp [eI,eB,eS,eL,eP,G.pures,G.pure,Jo]
theorem Zgf {O O':Objs} {n:Nat} (xs:List (List Int)):wkl O O' n (fl (eL (eI .u64)) xs) (fl (eL (eI .u64)) xs):=Zj9 (Jo Zpl xs)
theorem Zuh {ρ:Nat→Nat} (xs:List (List Int)):G.rens ρ (fl (eL (eI .u64)) xs)=fl (eL (eI .u64)) xs:=U0 ρ _ (Jo Zpl xs)
theorem Zbb:∀ x,G.pures (Zx x)=true:=fun x=>by simp [eI,eB,eS,eL,eP,G.pures,G.pure,Jo,Zx]
theorem Znd {O O':Objs} {n:Nat} (x:Option Zr):wk O O' n (gP Zx x) (gP Zx x)=True:=Yd2 Zbb x
theorem Zj0 {ρ:Nat→Nat} (x:Option Zr):(gP Zx x).ren ρ=gP Zx x:=Zug ρ _ (Zye Zbb x)
mutual
def Ud:Zi→List G
 | ⟨f0,f1,f2⟩=>[.val (.int .i64 f0),.sl f1.length (fl (eI .u64) f1),.sl f2.length (Ue f2)]
def Ue:List Zi→List G
 | []=>[]
 | x::xs=>Ud x++Ue xs
end
theorem Zgj:∀ xs,Ue xs=fl Ud xs
 | []=>by simp [Ue,fl]
 | x::xs=>by rw [Ue,V3,Zgj xs]
def Zl (x:Zi):List G:=[.val (.int .i64 x.Kind),.sl x.Words.length (fl (eI .u64) x.Words),.sl x.Kids.length (fl Ud x.Kids)]
theorem Kh:Ud=Zl:=by
 funext x
 obtain ⟨_,_,_⟩:=x
 simp only [Ud,Zgj,Zl,List.cons_append,List.nil_append]
mutual
theorem Zjz:∀ x,G.pures (Ud x)=true
 | ⟨f0,f1,f2⟩=>by simp [Ud,eP,eI,eB,eS,eL,G.pures,G.pure,Zlo,Jo,Ziy f2]
theorem Ziy:∀ xs,G.pures (Ue xs)=true
 | []=>rfl
 | x::xs=>by simp [Ue,Zlo,Zjz x,Ziy xs]
end
theorem Zdv:∀ x,G.pures (Zl x)=true:=fun x=>by rw [← Kh];exact Zjz x
theorem Zc8 {O O':Objs} {n:Nat} (xs:List Zi):wkl O O' n (fl Zl xs) (fl Zl xs):=Zj9 (Jo Zdv xs)
theorem Zh4 {O O':Objs} {n:Nat} (xs:List Zi) (b b':List G):wkl O O' n (fl Zl xs++b) (fl Zl xs++b')=wkl O O' n b b':=Zka b b' _ (Jo Zdv xs)
theorem Zb5 {ρ:Nat→Nat} (xs:List Zi):G.rens ρ (fl Zl xs)=fl Zl xs:=U0 ρ _ (Jo Zdv xs)
theorem Zqr:∀ x,G.pures ((eI .i64) x)=true:=fun x=>by simp [eI,eB,eS,eL,eP,G.pures,G.pure]
theorem Zom {O O':Objs} {n:Nat} (xs:List Int):wkl O O' n (fl (eI .i64) xs) (fl (eI .i64) xs):=Zj9 (Jo Zqr xs)
theorem Zuw {O O':Objs} {n:Nat} (xs:List Int) (b b':List G):wkl O O' n (fl (eI .i64) xs++b) (fl (eI .i64) xs++b')=wkl O O' n b b':=Zka b b' _ (Jo Zqr xs)
theorem Z1o (xs:List Int):(fl (eI .i64) xs).length=xs.length * 1:=Gi (f:=(eI .i64)) (k:=1) (fun _=>rfl) xs
theorem Z1v (xs:List Int):(fl (eI .i64) xs).all G.one=true:=Znr (fun x=>by simp [eI,eB,eS,eL,eP,G.one,Value.oneCell']) xs
theorem Zr6 {ρ:Nat→Nat} (xs:List Int):G.rens ρ (fl (eI .i64) xs)=fl (eI .i64) xs:=U0 ρ _ (Jo Zqr xs)
def Zj (x:Zu):List G:=[.val (.int .u64 x.hash),(gP Zx x.r.a),.val (.int .i64 x.r.kind),.val (.int .i64 x.r.segment),.val (.int .i64 x.r.at_),.val (.int .i64 x.r.words),.val (.int .i64 x.r.ptrs),.val (.int .i64 x.r.count),.val (.int .i64 x.r.code),.val (.int .i64 x.r.index)]
def Y6 (x:Z3):List G:=[.sl x.classes.length (fl Zj x.classes),.sl x.places.length (fl (eI .i64) x.places)]
theorem Zab:∀ x,G.pures (Zj x)=true:=fun x=>by simp [eI,eB,eS,eL,eP,G.pures,G.pure,Zye,Zj,Zbb]
theorem Zcj {O O':Objs} {n:Nat} (xs:List Zu):wkl O O' n (fl Zj xs) (fl Zj xs):=Zj9 (Jo Zab xs)
theorem Zjc {O O':Objs} {n:Nat} (xs:List Zu) (b b':List G):wkl O O' n (fl Zj xs++b) (fl Zj xs++b')=wkl O O' n b b':=Zka b b' _ (Jo Zab xs)
theorem Zim {ρ:Nat→Nat} (xs:List Zu):G.rens ρ (fl Zj xs)=fl Zj xs:=U0 ρ _ (Jo Zab xs)
def Yj (x:Zu):List G:=[.val (.int .u64 x.hash),(gP Zx x.r.a),.val (.int .i64 x.r.kind),.val (.int .i64 x.r.segment),.val (.int .i64 x.r.at_),.val (.int .i64 x.r.words),.val (.int .i64 x.r.ptrs),.val (.int .i64 x.r.count),.val (.int .i64 x.r.code),.val (.int .i64 x.r.index)]
def Zk (x:Zd):List G:=[(gP Zx x.a),.val (.int .i64 x.kind),.val (.int .i64 x.segment),.val (.int .i64 x.at_),.val (.int .i64 x.words),.val (.int .i64 x.ptrs),.val (.int .i64 x.count),.val (.int .i64 x.code),.val (.int .i64 x.index)]
def Yp (x:Z8):List G:=[.val (.int .i64 x.Kind),.val (.int .i64 x.Off),.val (.int .i64 x.Data),.val (.int .i64 x.Ptrs),.val (.int .i64 x.Code),.val (.int .i64 x.Count),.val (.int .i64 x.Segment),.val (.bool x.Double)]
def Z0 (x:Zw):List G:=[.val (.int .i64 x.Kind),.val (.int .i64 x.S),.val (.int .i64 x.At),.val (.int .i64 x.Data),.val (.int .i64 x.Ptrs),.val (.int .i64 x.Count),.val (.int .u64 x.N)]
def Zm (x:Zi):List G:=[.val (.int .i64 x.Kind),.sl x.Words.length (fl (eI .u64) x.Words),.sl x.Kids.length (fl Zl x.Kids)]
def Qj (x:Yg):List G:=[.val (.int .i64 x.Depth),.val (.int .i64 x.Weight),.val (.int .i64 x.MaxD),.val (.int .i64 x.MaxOut)]
end Go.Proofs.Ytaddaloondpnkaa
