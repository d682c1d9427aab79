/- Part DD of this seat's mirrors: functions of the seat's program, and the plain functions that they are; each theorem bears its own conditions. -/
import Derived.Test.YtpfbdlcnfekdkaaGreatH26
namespace Go.Proofs.YtpfbdlcnfekdkaaGreat
open Go.RowKit
set_option linter.unusedVariables false
set_option linter.unusedSimpArgs false
set_option maxRecDepth 100000
set_option maxHeartbeats 4000000
structure Z0 where
 Depth:Int
 Weight:Int
 MaxD:Int
 MaxOut:Int
noncomputable def Gv (a0:Z0):Option Z0 :=
 (cond (decide (3000 < a0.Weight)) (some 3000) (some a0.Weight)).bind fun (z1:Int)=>some (⟨a0.Depth,z1,a0.MaxD,a0.MaxOut⟩:Z0)
noncomputable def Xr (a0:List Int):Option (List Int) :=
 Zhj 8 ([]:List Int) a0
noncomputable def Ge (a0:(List (List Int))) (s0_:(Int×(List (List Int)))):Option ((Int×(List (List Int))) ⊕ (List (List Int))) :=
 cond (decide (s0_.1 < (a0.length:Int))) ((Y9 a0 s0_.1).bind fun x4=>(Xr x4).bind fun y5=>(Y9 s0_.2 s0_.1).bind fun x6=>some (.inl ((IntKind.i64.wrap (s0_.1+1)),(Kc s0_.2 s0_.1 y5)))) (some (.inr s0_.2))
noncomputable def Zef (a0:(List (List Int))):Option (List (List Int)) :=
 (Zic 24 (a0.length:Int) ([]:(List Int))).bind fun l2=>(Zw (Ge a0) (0,l2)).bind fun (z9:(List (List Int)))=>some z9
structure Zl where
 segments:(List (List Int))
 size:Int
 left:Int
noncomputable def Zju (a0:(List (List Int))):Option (Option Zl) :=
 (Zef a0).bind fun y2=>some (some (⟨y2,0,0⟩:Zl))
noncomputable def Zam (a0:Int) (a1:Int):Option Int :=
 some (if a1 < (if a0 < 0 then 0 else a0) then a1 else (if a0 < 0 then 0 else a0))
noncomputable def Zfx (a0:Z0):Option Z0 :=
 (Zam a0.Depth 64).bind fun y5=>(Zam a0.Weight 65536).bind fun y6=>(Zam a0.MaxD 4096).bind fun y7=>(Zam a0.MaxOut 131072).bind fun y8=>some (⟨y5,y6,y7,y8⟩:Z0)
noncomputable def Zc6 (a0:(Option Zl)):Option Int :=
 cond (Option.isNone a0) (some 0) ((a0).bind fun x4=>some (x4.segments.length:Int))
noncomputable def Vf (a0:(Option Zl)) (a1:Int):Option Bool :=
 (cond (decide (0≤a1)) ((Zc6 a0).bind fun y4=>some (cond (decide (0≤a1)) (decide (a1 < y4)) false)) (some false)).bind fun (z2:Bool)=>some z2
noncomputable def V4 (a0:(Option Zl)) (a1:Int):Option Int :=
 (Vf a0 a1).bind fun y2=>cond (!y2) (some 0) ((a0).bind fun x5=>(Y9 x5.segments a1).bind fun x6=>some (x6.length:Int))
noncomputable def K4 (a0:(Option Zl)) (a1:Int) (a2:Int) (a3:Int):Option Bool :=
 ((Vf a0 a1).bind fun y8=>cond y8 (cond (decide (0≤a2)) (cond (decide (0≤a3)) ((V4 a0 a1).bind fun y9=>cond (decide (a3≤y9)) ((V4 a0 a1).bind fun y10=>some (cond (cond (cond (cond y8 (decide (0≤a2)) false) (decide (0≤a3)) false) (decide (a3≤y9)) false) (decide (a2≤(IntKind.i64.wrap (y10 - a3)))) false)) (some false)) (some false)) (some false)) (some false)).bind fun (z4:Bool)=>some z4
noncomputable def Qu (a0:(Option Zl)) (a1:Int) (a2:Int):Option (Int×Bool) :=
 (K4 a0 a1 a2 1).bind fun y2=>cond (!y2) (some (0,false)) ((a0).bind fun x6=>(Y9 x6.segments a1).bind fun x7=>(Y9 x7 a2).bind fun x8=>some (x8,true))
noncomputable def Zfw (a0:Int):Option Int :=
 some (IntKind.i64.wrap (Int.fdiv (IntKind.i32.wrap (IntKind.u32.wrap a0)) (2 ^ min (Int.toNat 2) 32)))
noncomputable def Qo (a0:Int) (a1:Int) (a2:Int):Option Int :=
 (Xj (0≤a1)).bind fun u3=>(Xj (0≤a2)).bind fun u4=>some (IntKind.i64.wrap (IntKind.u64.wrap (Zdg .u64 (Int.fdiv a0 (2 ^ min (Int.toNat a1) 64)) (IntKind.u64.wrap ((IntKind.u64.wrap (1 * 2 ^ min (Int.toNat a2) 64)) - 1)))))
structure Zx where
 Kind:Int
 Off:Int
 Data:Int
 Ptrs:Int
 Code:Int
 Count:Int
 Segment:Int
 Double:Bool
noncomputable def K7 (a0:Int):Option Zx :=
 cond (a0 == 0) (some (⟨0,0,0,0,0,0,0,false⟩:Zx)) (cond ((IntKind.u64.wrap (Zdg .u64 a0 3)) == 0) ((Zfw a0).bind fun y4=>(Qo a0 32 16).bind fun y5=>(Qo a0 48 16).bind fun y6=>some (⟨1,y4,y5,y6,0,0,0,false⟩:Zx)) (cond ((IntKind.u64.wrap (Zdg .u64 a0 3)) == 1) ((Zfw a0).bind fun y10=>(Qo a0 32 3).bind fun y11=>(Qo a0 35 29).bind fun y12=>some (⟨2,y10,0,0,y11,y12,0,false⟩:Zx)) (cond ((IntKind.u64.wrap (Zdg .u64 a0 3)) == 2) ((Qo a0 3 29).bind fun y15=>(Qo a0 32 32).bind fun y16=>some (⟨3,y15,0,0,0,0,y16,((IntKind.u64.wrap (Zdg .u64 (Int.fdiv a0 (2 ^ min (Int.toNat 2) 64)) 1)) == 1)⟩:Zx)) (some (⟨4,0,0,0,0,0,0,false⟩:Zx)))))
noncomputable def Gt (a0:(Option Zl)) (a1:Int) (a2:Int) (a3:Int):Option ((List Int)×Bool) :=
 (K4 a0 a1 a2 a3).bind fun y2=>cond (!y2) (some (([]:(List Int)),false)) ((a0).bind fun x7=>(Y9 x7.segments a1).bind fun x8=>(Zin x8 a2 (IntKind.i64.wrap (a2+a3))).bind fun l9=>(Xr l9).bind fun y10=>some (y10,true))
noncomputable def Ze3 (a0:Int):Option Int :=
 ((some (⟨[0,1,8,16,32,64,64],rfl⟩:(Arr Int 7)))).bind fun y6=>((some (⟨[0,0,0,0,0,0,0],rfl⟩:(Arr Int 7)))).bind fun y8=>(Y9 y6.1 a0).bind fun x12=>some x12
noncomputable def X5 (a0:Zx):Option (Int×Bool) :=
 cond (a0.Kind == 1) (some ((IntKind.i64.wrap (a0.Data+a0.Ptrs)),true)) (cond (cond (a0.Kind == 2) (a0.Code == 7) false) (some ((IntKind.i64.wrap (a0.Count+1)),true)) (cond (cond (cond (cond (cond (a0.Kind == 2) (decide (0≤a0.Code)) false) (decide (a0.Code < 7)) false) (decide (0≤a0.Count)) false) (decide (a0.Count≤536870911)) false) ((Ze3 a0.Code).bind fun y2=>some ((IntKind.i64.wrap (Int.tdiv (IntKind.i64.wrap ((IntKind.i64.wrap (a0.Count * y2))+63)) 64)),true)) (some (0,false))))
structure Xy where
 P:Zx
 Segment:Int
 At:Int
noncomputable def Zb5 (a0:(Option Zl)) (a1:Zx) (a2:Int) (a3:Int):Option (Xy×Int) :=
 cond (a1.Kind == 4) (some ((⟨⟨0,0,0,0,0,0,0,false⟩,0,0⟩:Xy),9)) ((X5 a1).bind fun y2=>cond (!y2.2) (some ((⟨⟨0,0,0,0,0,0,0,false⟩,0,0⟩:Xy),8)) ((K4 a0 a2 a3 y2.1).bind fun y4=>cond (!y4) (some ((⟨⟨0,0,0,0,0,0,0,false⟩,0,0⟩:Xy),7)) (some ((⟨⟨a1.Kind,0,a1.Data,a1.Ptrs,a1.Code,a1.Count,a1.Segment,a1.Double⟩,a2,a3⟩:Xy),0))))
noncomputable def Zfu (a0:(Option Zl)) (a1:Int) (a2:Int):Option (Xy×Int) :=
 (Gt a0 a1 a2 2).bind fun y2=>cond (!y2.2) (some ((⟨⟨0,0,0,0,0,0,0,false⟩,0,0⟩:Xy),7)) ((Y9 y2.1 0).bind fun x3=>(K7 x3).bind fun y4=>(Y9 y2.1 1).bind fun x5=>(K7 x5).bind fun y6=>cond (cond (y4.Kind != 3) true y4.Double) (some ((⟨⟨0,0,0,0,0,0,0,false⟩,0,0⟩:Xy),8)) (cond (cond (y6.Kind != 4) (y6.Off != 0) false) (some ((⟨⟨0,0,0,0,0,0,0,false⟩,0,0⟩:Xy),8)) ((Zb5 a0 y6 y4.Segment y4.Off).bind fun y8=>some (y8.1,y8.2))))
noncomputable def Zfv (a0:(Option Zl)) (a1:Int) (a2:Int):Option (Xy×Int) :=
 (Qu a0 a1 a2).bind fun y2=>cond (!y2.2) (some ((⟨⟨0,0,0,0,0,0,0,false⟩,0,0⟩:Xy),7)) ((K7 y2.1).bind fun y4=>(Zb5 a0 y4 a1 (IntKind.i64.wrap ((IntKind.i64.wrap (a2+1))+y4.Off))).bind fun y6=>some (y6.1,y6.2))
noncomputable def Zft (a0:(Option Zl)) (a1:Int) (a2:Int):Option (Xy×Int) :=
 (Qu a0 a1 a2).bind fun y2=>cond (!y2.2) (some ((⟨⟨0,0,0,0,0,0,0,false⟩,0,0⟩:Xy),7)) ((K7 y2.1).bind fun y4=>cond (y4.Kind == 0) (some ((⟨⟨0,0,0,0,0,0,0,false⟩,0,0⟩:Xy),0)) (cond (cond (y4.Kind == 3) y4.Double false) ((Zfu a0 y4.Segment y4.Off).bind fun y6=>some (y6.1,y6.2)) (cond (y4.Kind == 3) ((Zfv a0 y4.Segment y4.Off).bind fun y8=>some (y8.1,y8.2)) ((Zb5 a0 y4 a1 (IntKind.i64.wrap ((IntKind.i64.wrap (a2+1))+y4.Off))).bind fun y10=>some (y10.1,y10.2)))))
structure Zc where
 a:(Option Zl)
 kind:Int
 segment:Int
 at_:Int
 words:Int
 ptrs:Int
 count:Int
 code:Int
 index:Int
noncomputable def Zb7 (a0:Zc):Option (Zc×Int) :=
 (Qu a0.a a0.segment a0.at_).bind fun y2=>(K7 y2.1).bind fun y4=>cond (cond (cond (cond (y4.Kind != 0) (y4.Kind != 1) false) true (decide (y4.Off < 0))) true (decide (a0.count < (IntKind.i64.wrap (y4.Off * (IntKind.i64.wrap (y4.Data+y4.Ptrs))))))) (some ((⟨(none:(Option Zl)),0,0,0,0,0,0,0,0⟩:Zc),8)) (some ((⟨a0.a,a0.kind,a0.segment,a0.at_,y4.Data,y4.Ptrs,y4.Off,a0.code,a0.index⟩:Zc),0))
noncomputable def Zdj (a0:(Option Zl)) (a1:Int) (a2:Int):Option (Zc×Int) :=
 (Zft a0 a1 a2).bind fun y2=>cond (cond (y2.2 != 0) true (y2.1.P.Kind == 0)) (some ((⟨(none:(Option Zl)),0,0,0,0,0,0,0,0⟩:Zc),y2.2)) (cond (y2.1.P.Kind == 1) (some ((⟨a0,1,y2.1.Segment,y2.1.At,y2.1.P.Data,y2.1.P.Ptrs,0,0,0⟩:Zc),0)) (cond (y2.1.P.Code == 7) ((Zb7 (⟨a0,(IntKind.i64.wrap (y2.1.P.Code+2)),y2.1.Segment,y2.1.At,0,0,y2.1.P.Count,0,0⟩:Zc)).bind fun y4=>some (y4.1,y4.2)) (some ((⟨a0,(IntKind.i64.wrap (y2.1.P.Code+2)),y2.1.Segment,y2.1.At,0,0,y2.1.P.Count,0,0⟩:Zc),0))))
noncomputable def Zcu (a0:(Option Zl)):Option (Zc×Int) :=
 (Zdj a0 0 0).bind fun y2=>some (y2.1,y2.2)
noncomputable def Yy (a0:Zc):Option Int :=
 some a0.kind
noncomputable def Y6 (a0:Zc):Option Int :=
 cond (a0.kind == 1) (some a0.ptrs) (some a0.count)
noncomputable def Zdn (a0:Zc):Option Int :=
 (Yy a0).bind fun y2=>cond (y2 == 0) (some 0) (((Yy a0).bind fun y8=>cond (y8 == 9) ((Y6 a0).bind fun y9=>some (cond (y8 == 9) (decide (0 < y9)) false)) (some false)).bind fun (z5:Bool)=>cond z5 (some 2) (some 1))
noncomputable def Ja (a0:Zc):Option Int :=
 cond (a0.kind == 1) (some a0.words) (cond (a0.kind == 10) (some 1) (some 0))
noncomputable def Zb6 (a0:Zc):Option (Int×Int) :=
 cond (a0.kind != 9) (some (0,0)) (some (a0.words,a0.ptrs))
noncomputable def Zbs (a0:Zc):Option Int :=
 (Yy a0).bind fun y2=>cond (y2 == 0) (some 0) (cond (y2 == 1) ((Ja a0).bind fun y5=>(Y6 a0).bind fun y6=>some (IntKind.i64.wrap ((IntKind.i64.wrap (1+y5))+y6))) (cond (y2 == 9) ((Zb6 a0).bind fun y8=>(Y6 a0).bind fun y10=>some (IntKind.i64.wrap (1+(IntKind.i64.wrap (y10 * (IntKind.i64.wrap ((IntKind.i64.wrap (1+y8.1))+y8.2))))))) ((Y6 a0).bind fun y12=>some (IntKind.i64.wrap (1+y12)))))
noncomputable def Kv (a0:Zc) (a1:Int):Option (Zc×Int) :=
 (cond (decide (a1 < 0)) (some true) ((Y6 a0).bind fun y4=>some (cond (decide (a1 < 0)) true (decide (y4≤a1))))).bind fun (z2:Bool)=>cond z2 (some ((⟨(none:(Option Zl)),0,0,0,0,0,0,0,0⟩:Zc),0)) (cond (a0.kind == 1) ((Zdj a0.a a0.segment (IntKind.i64.wrap ((IntKind.i64.wrap (a0.at_+a0.words))+a1))).bind fun y7=>some (y7.1,y7.2)) (cond (a0.kind == 8) ((Zdj a0.a a0.segment (IntKind.i64.wrap (a0.at_+a1))).bind fun y9=>some (y9.1,y9.2)) (cond (a0.kind == 9) (some ((⟨a0.a,1,a0.segment,(IntKind.i64.wrap ((IntKind.i64.wrap (a0.at_+1))+(IntKind.i64.wrap (a1 * (IntKind.i64.wrap (a0.words+a0.ptrs)))))),a0.words,a0.ptrs,0,0,0⟩:Zc),0)) (some ((⟨a0.a,10,a0.segment,a0.at_,0,0,0,(IntKind.i64.wrap (a0.kind - 2)),a1⟩:Zc),0)))))
structure Zh where
 left:Int
noncomputable def Jv (Yl:(Zh→Zc→Int→Option (Int×Zh))) (Yk:(Zh→Zc→Int→Option (Int×Zh))) (Yo:(Zh→Zc→Int→Option (Int×Zh))) (a0:Zh) (a1:Zc) (a2:Int):Option (Int×Zh) :=
 ((Zdn a1).bind fun y6=>cond (decide (a2 < y6)) (some true) ((Zbs a1).bind fun y7=>some (cond (decide (a2 < y6)) true (decide (a0.left < y7))))).bind fun (z3:Bool)=>cond z3 (some (3,a0)) ((Zbs a1).bind fun y10=>(Yy a1).bind fun y12=>(cond (y12 == 1) (some (y12 == 1)) (some (y12 == 8))).bind fun (z13:Bool)=>cond z13 ((Yk (⟨(IntKind.i64.wrap (a0.left - y10))⟩:Zh) a1 (IntKind.i64.wrap (a2 - 1))).bind fun y16=>some (y16.1,y16.2)) (cond (y12 == 9) ((Yo (⟨(IntKind.i64.wrap (a0.left - y10))⟩:Zh) a1 (IntKind.i64.wrap (a2 - 1))).bind fun y18=>some (y18.1,y18.2)) (some (0,(⟨(IntKind.i64.wrap (a0.left - y10))⟩:Zh)))))
noncomputable def Ks (Yl:(Zh→Zc→Int→Option (Int×Zh))) (a1:Zc) (a2:Int) (y2:Int) (s0_:(Int×Int)):Option ((Int×Int) ⊕ ((Int×Int) ⊕ Int)) :=
 cond (decide (s0_.1 < y2)) ((Kv a1 s0_.1).bind fun y4=>cond (y4.2 != 0) (some (.inr (.inl (y4.2,s0_.2)))) ((Yl (⟨s0_.2⟩:Zh) y4.1 a2).bind fun y6=>cond (y6.1 != 0) (some (.inr (.inl (y6.1,y6.2.left)))) (some (.inl ((IntKind.i64.wrap (s0_.1+1)),y6.2.left))))) (some (.inr (.inr s0_.2)))
noncomputable def Kr (Yl:(Zh→Zc→Int→Option (Int×Zh))) (Yk:(Zh→Zc→Int→Option (Int×Zh))) (Yo:(Zh→Zc→Int→Option (Int×Zh))) (a0:Zh) (a1:Zc) (a2:Int):Option (Int×Zh) :=
 (Y6 a1).bind fun y2=>(Zw (Ks Yl a1 a2 y2) (0,a0.left)).bind fun (z10:((Int×Int) ⊕ Int))=>match z10 with | .inl z10=>some (z10.1,(⟨z10.2⟩:Zh)) | .inr z10=>some (0,(⟨z10⟩:Zh))
noncomputable def Q7 (Yk:(Zh→Zc→Int→Option (Int×Zh))) (a1:Zc) (a2:Int) (y2:Int) (s0_:(Int×Int)):Option ((Int×Int) ⊕ ((Int×Int) ⊕ Int)) :=
 cond (decide (s0_.1 < y2)) ((Kv a1 s0_.1).bind fun y4=>cond (y4.2 != 0) (some (.inr (.inl (y4.2,s0_.2)))) ((Yk (⟨s0_.2⟩:Zh) y4.1 (IntKind.i64.wrap (a2 - 1))).bind fun y6=>cond (y6.1 != 0) (some (.inr (.inl (y6.1,y6.2.left)))) (some (.inl ((IntKind.i64.wrap (s0_.1+1)),y6.2.left))))) (some (.inr (.inr s0_.2)))
noncomputable def Qy (Yl:(Zh→Zc→Int→Option (Int×Zh))) (Yk:(Zh→Zc→Int→Option (Int×Zh))) (Yo:(Zh→Zc→Int→Option (Int×Zh))) (a0:Zh) (a1:Zc) (a2:Int):Option (Int×Zh) :=
 (Y6 a1).bind fun y2=>(Zw (Q7 Yk a1 a2 y2) (0,a0.left)).bind fun (z10:((Int×Int) ⊕ Int))=>match z10 with | .inl z10=>some (z10.1,(⟨z10.2⟩:Zh)) | .inr z10=>some (0,(⟨z10⟩:Zh))
noncomputable def Zs:Nat→((Zh→Zc→Int→Option (Int×Zh))×(Zh→Zc→Int→Option (Int×Zh))×(Zh→Zc→Int→Option (Int×Zh)))
 | 0=>((fun _ _ _=>none),(fun _ _ _=>none),(fun _ _ _=>none))
 | k+1=>(Jv ((Zs k).1) ((Zs k).2.1) ((Zs k).2.2),Kr ((Zs k).1) ((Zs k).2.1) ((Zs k).2.2),Qy ((Zs k).1) ((Zs k).2.1) ((Zs k).2.2))
noncomputable def Zc2 (a0:Zh) (a1:Zc) (a2:Int):Option (Int×Zh):=lim fun k=>(Zs k).1 a0 a1 a2
noncomputable def Zeg (a0:(Option Zl)) (a1:Z0):Option (Int×Int) :=
 (Zfx a1).bind fun y2=>(Zcu a0).bind fun y4=>cond (y4.2 != 0) (some (0,y4.2)) ((Zc2 (⟨y2.Weight⟩:Zh) y4.1 y2.Depth).bind fun y6=>cond (y6.1 != 0) (some (0,y6.1)) (some ((IntKind.i64.wrap (y2.Weight - y6.2.left)),0)))
noncomputable def Zck (a0:Zc):Option Int :=
 (Yy a0).bind fun y2=>cond (y2 == 0) (some 0) (cond (y2 == 1) ((Ja a0).bind fun y5=>(Y6 a0).bind fun y6=>some (IntKind.i64.wrap ((IntKind.i64.wrap (1+y5))+y6))) (cond (y2 == 8) ((Y6 a0).bind fun y8=>some (IntKind.i64.wrap (1+y8))) (some 1)))
noncomputable def Zdk (a0:Int):Option Bool :=
 some (cond (decide (2≤a0)) (decide (a0≤9)) false)
noncomputable def Zdm (a0:Zc):Option Bool :=
 ((Yy a0).bind fun y8=>cond (y8 == 1) (some true) ((Yy a0).bind fun y9=>(Zdk y9).bind fun y10=>some (cond (y8 == 1) true y10))).bind fun (z4:Bool)=>some z4
noncomputable def Jh (a0:Int):Option (Int×Bool) :=
 ((some (⟨[0,1,8,16,32,64],rfl⟩:(Arr Int 6)))).bind fun y6=>((some (⟨[0,0,0,0,0,0],rfl⟩:(Arr Int 6)))).bind fun y8=>cond (cond (decide (a0 < 0)) true (decide (6≤a0))) (some (0,false)) ((Y9 y6.1 a0).bind fun x12=>some (x12,true))
noncomputable def Zjv (a0:(List Int)) (a1:Int) (a2:Int):Option Int :=
 (Jh a1).bind fun y2=>cond (cond (y2.1 == 0) true (decide (a2 < 0))) (some 0) ((Xj (y2.1≠0)).bind fun u4=>(Xj ((IntKind.i64.wrap (Int.tdiv 64 y2.1))≠0)).bind fun u6=>cond (decide ((a0.length:Int)≤(IntKind.i64.wrap (Int.tdiv a2 (IntKind.i64.wrap (Int.tdiv 64 y2.1)))))) (some 0) ((Xj ((IntKind.i64.wrap (Int.tdiv 64 y2.1))≠0)).bind fun u12=>(Y9 a0 (IntKind.i64.wrap (Int.tdiv a2 (IntKind.i64.wrap (Int.tdiv 64 y2.1))))).bind fun x13=>(Xj ((IntKind.i64.wrap (Int.tdiv 64 y2.1))≠0)).bind fun u14=>(Xj (0≤(IntKind.i64.wrap ((Int.tmod a2 (IntKind.i64.wrap (Int.tdiv 64 y2.1))) * y2.1)))).bind fun u15=>(Xj (0≤y2.1)).bind fun u16=>some (IntKind.u64.wrap (Zdg .u64 (Int.fdiv x13 (2 ^ min (Int.toNat (IntKind.i64.wrap ((Int.tmod a2 (IntKind.i64.wrap (Int.tdiv 64 y2.1))) * y2.1))) 64)) (IntKind.u64.wrap ((IntKind.u64.wrap (1 * 2 ^ min (Int.toNat y2.1) 64)) - 1))))))
noncomputable def U6 (a0:Zc):Option Int :=
 (Jh a0.code).bind fun y2=>cond (y2.1 == 0) (some 0) ((Xj (y2.1≠0)).bind fun u4=>(Xj ((IntKind.i64.wrap (Int.tdiv 64 y2.1))≠0)).bind fun u7=>(Qu a0.a a0.segment (IntKind.i64.wrap (a0.at_+(IntKind.i64.wrap (Int.tdiv a0.index (IntKind.i64.wrap (Int.tdiv 64 y2.1))))))).bind fun y8=>(Xj ((IntKind.i64.wrap (Int.tdiv 64 y2.1))≠0)).bind fun u11=>(Zjv ([y8.1]:List Int) a0.code (Int.tmod a0.index (IntKind.i64.wrap (Int.tdiv 64 y2.1)))).bind fun y12=>some y12)
noncomputable def Zav (a0:Zc) (a1:Int):Option Int :=
 (cond (decide (a1 < 0)) (some true) ((Ja a0).bind fun y4=>some (cond (decide (a1 < 0)) true (decide (y4≤a1))))).bind fun (z2:Bool)=>cond z2 (some 0) (cond (a0.kind == 10) ((U6 a0).bind fun y7=>some y7) ((Qu a0.a a0.segment (IntKind.i64.wrap (a0.at_+a1))).bind fun y9=>some y9.1))
structure Zu where
 left:Int
structure Za where
 Kind:Int
 Words:(List Int)
 Kids:(List Za)
noncomputable def Xi (a1:Zc) (y12:Int) (s0_:(Int×(List Int))):Option ((Int×(List Int)) ⊕ (List Int)) :=
 cond (decide (s0_.1 < y12)) ((Zav a1 s0_.1).bind fun y13=>(Zhj 8 s0_.2 ([y13]:List Int)).bind fun l14=>some (.inl ((IntKind.i64.wrap (s0_.1+1)),l14))) (some (.inr s0_.2))
noncomputable def Xb (Xo:(Zu→Zc→Int→Option (Za×Int×Zu))) (a1:Zc) (a2:Int) (y18:Int) (s1_:(Int×(List Za)×Int)):Option ((Int×(List Za)×Int) ⊕ ((Int×Int) ⊕ ((List Za)×Int))) :=
 cond (decide (s1_.1 < y18)) ((Kv a1 s1_.1).bind fun y20=>cond (y20.2 != 0) (some (.inr (.inl (y20.2,s1_.2.2)))) ((Xo (⟨s1_.2.2⟩:Zu) y20.1 (IntKind.i64.wrap (a2 - 1))).bind fun y22=>cond (y22.2.1 != 0) (some (.inr (.inl (y22.2.1,y22.2.2.left)))) ((Zhj 56 s1_.2.1 ([y22.1]:List Za)).bind fun l23=>some (.inl ((IntKind.i64.wrap (s1_.1+1)),l23,y22.2.2.left))))) (some (.inr (.inr (s1_.2.1,s1_.2.2))))
noncomputable def Xn (Xo:(Zu→Zc→Int→Option (Za×Int×Zu))) (a0:Zu) (a1:Zc) (a2:Int):Option (Za×Int×Zu) :=
 (Zck a1).bind fun y2=>(cond (decide ((IntKind.i64.wrap (a0.left - y2)) < 0)) (some true) (cond (a2 == 0) ((Zdm a1).bind fun y6=>some (cond (decide ((IntKind.i64.wrap (a0.left - y2)) < 0)) true (cond (a2 == 0) y6 false))) (some (cond (decide ((IntKind.i64.wrap (a0.left - y2)) < 0)) true false)))).bind fun (z4:Bool)=>cond z4 (some ((⟨0,[],[]⟩:Za),3,(⟨(IntKind.i64.wrap (a0.left - y2))⟩:Zu))) ((Yy a1).bind fun y10=>(Ja a1).bind fun y12=>(Zw (Xi a1 y12) (0,([]:List Int))).bind fun (z16:(List Int))=>(Y6 a1).bind fun y18=>(Zw (Xb Xo a1 a2 y18) (0,([]:List Za),(IntKind.i64.wrap (a0.left - y2)))).bind fun (z27:((Int×Int) ⊕ ((List Za)×Int)))=>match z27 with | .inl z27=>some ((⟨0,[],[]⟩:Za),z27.1,(⟨z27.2⟩:Zu)) | .inr z27=>some ((⟨y10,z16,z27.1⟩:Za),0,(⟨z27.2⟩:Zu)))
noncomputable def Yp:Nat→(Zu→Zc→Int→Option (Za×Int×Zu))
 | 0=>(fun _ _ _=>none)
 | k+1=>Xn ((Yp k))
noncomputable def Zbr (a0:Zu) (a1:Zc) (a2:Int):Option (Za×Int×Zu):=lim fun k=>(Yp k) a0 a1 a2
noncomputable def Zdl (a0:Zc):Option (Za×Int) :=
 (Zbr (⟨65536⟩:Zu) a0 64).bind fun y2=>some (y2.1,y2.2.1)
noncomputable def U7 (a0:(List Int)) (s0_:Int):Option (Int ⊕ Int) :=
 (cond (decide (0 < s0_)) ((Y9 a0 (IntKind.i64.wrap (s0_ - 1))).bind fun x4=>some (cond (decide (0 < s0_)) (x4 == 0) false)) (some false)).bind fun (z2:Bool)=>cond z2 (some (.inl (IntKind.i64.wrap (s0_ - 1)))) (some (.inr s0_))
noncomputable def Zbp (a0:(List Int)):Option (List Int) :=
 (Zw (U7 a0) (a0.length:Int)).bind fun (z7:Int)=>(Zin a0 0 z7).bind fun l9=>some l9
noncomputable def Gy (a0:(List Za)) (s0_:Int):Option (Int ⊕ Int) :=
 (cond (decide (0 < s0_)) ((Y9 a0 (IntKind.i64.wrap (s0_ - 1))).bind fun x6=>some (cond (decide (0 < s0_)) (x6.Kind == 0) false)) (some false)).bind fun (z3:Bool)=>cond z3 (some (.inl (IntKind.i64.wrap (s0_ - 1)))) (some (.inr s0_))
noncomputable def Zcj (a0:(List Za)):Option (List Za) :=
 (Zw (Gy a0) (a0.length:Int)).bind fun (z10:Int)=>(Zin a0 0 z10).bind fun l12=>some l12
noncomputable def Zbg (Zb1:(Za→Option Za)) (z1:((List Int)×(List Za))) (s0_:(Int×(List Za))):Option ((Int×(List Za)) ⊕ (List Za)) :=
 cond (decide (s0_.1 < (z1.2.length:Int))) ((Y9 z1.2 s0_.1).bind fun x9=>(Zb1 x9).bind fun y10=>(Y9 s0_.2 s0_.1).bind fun x11=>some (.inl ((IntKind.i64.wrap (s0_.1+1)),(Kc s0_.2 s0_.1 y10)))) (some (.inr s0_.2))
noncomputable def Zhl (Zb1:(Za→Option Za)) (a0:Za):Option Za :=
 cond (a0.Kind == 0) (some (⟨0,[],[]⟩:Za)) ((cond (a0.Kind == 1) ((Zbp a0.Words).bind fun y2=>(Zcj a0.Kids).bind fun y3=>some (y2,y3)) (some (a0.Words,a0.Kids))).bind fun (z1:((List Int)×(List Za)))=>(cond (decide (0 < (z1.2.length:Int))) ((Zic 56 (z1.2.length:Int) (⟨(0:Int),[],[]⟩:Za)).bind fun l6=>some l6) (some ([]:List Za))).bind fun (z5:(List Za))=>(Zw (Zbg Zb1 z1) (0,z5)).bind fun (z14:(List Za))=>some (⟨a0.Kind,z1.1,z14⟩:Za))
noncomputable def U9:Nat→(Za→Option Za)
 | 0=>(fun _=>none)
 | k+1=>Zhl ((U9 k))
noncomputable def Zhr (a0:Za):Option Za:=lim fun k=>(U9 k) a0
noncomputable def Zbq (a0:(Option Zl)) (a1:Z0):Option (Za×Int) :=
 (Zeg a0 a1).bind fun y2=>cond (y2.2 != 0) (some ((⟨0,[],[]⟩:Za),y2.2)) ((Zcu a0).bind fun y4=>cond (y4.2 != 0) (some ((⟨0,[],[]⟩:Za),y4.2)) ((Zdl y4.1).bind fun y6=>(Zhr y6.1).bind fun y8=>some (y8,y6.2)))
noncomputable def Uk (a0:(List Za)) (s0_:Int):Option (Int ⊕ (Unit ⊕ Unit)) :=
 cond (decide (s0_ < (a0.length:Int))) ((Y9 a0 s0_).bind fun x2=>cond (x2.Kind != 1) (some (.inr (.inl ()))) (some (.inl (IntKind.i64.wrap (s0_+1))))) (some (.inr (.inr ())))
noncomputable def Zaw (a0:(List Za)):Option Bool :=
 (Zw (Uk a0) 0).bind fun (z5:(Unit ⊕ Unit))=>match z5 with | .inl z5=>some false | .inr z5=>some true
noncomputable def Ze4 (a0:Int) (a1:Int):Option Bool :=
 (Jh a0).bind fun y2=>(cond y2.2 ((Xj (0≤y2.1)).bind fun u6=>some (cond y2.2 ((Int.fdiv a1 (2 ^ min (Int.toNat y2.1) 64)) == 0) false)) (some false)).bind fun (z4:Bool)=>some z4
noncomputable def Zfk (Xd:(Za→Option Bool)) (Xa:(Za→Int→Option Bool)) (Yw:((List Za)→Int→Option Bool)) (Yz:((List Za)→Int→Option Bool)) (a0:Za):Option Bool :=
 cond (a0.Kind == 10) (some (cond ((a0.Words.length:Int) == 1) ((a0.Kids.length:Int) == 0) false)) ((Xa a0 64).bind fun y2=>some y2)
noncomputable def Zfl (Xd:(Za→Option Bool)) (Xa:(Za→Int→Option Bool)) (Yw:((List Za)→Int→Option Bool)) (Yz:((List Za)→Int→Option Bool)) (a0:Za) (a1:Int):Option Bool :=
 cond (a0.Kind == 0) (some (cond ((a0.Words.length:Int) == 0) ((a0.Kids.length:Int) == 0) false)) (cond (a1 == 0) (some false) (cond (a0.Kind == 1) ((cond (decide ((a0.Words.length:Int) < 65536)) (cond (decide ((a0.Kids.length:Int) < 65536)) ((Yw a0.Kids (IntKind.i64.wrap (a1 - 1))).bind fun y4=>some (cond (cond (decide ((a0.Words.length:Int) < 65536)) (decide ((a0.Kids.length:Int) < 65536)) false) y4 false)) (some false)) (some false)).bind fun (z2:Bool)=>some z2) ((Zdk a0.Kind).bind fun y8=>cond (cond (cond (!y8) true (decide (0 < (a0.Words.length:Int)))) true (decide (1048576≤(a0.Kids.length:Int)))) (some false) (cond (a0.Kind == 8) ((Yw a0.Kids (IntKind.i64.wrap (a1 - 1))).bind fun y10=>some y10) (cond (a0.Kind == 9) (((Zaw a0.Kids).bind fun y16=>cond y16 ((Yw a0.Kids (IntKind.i64.wrap (a1 - 1))).bind fun y17=>some (cond y16 y17 false)) (some false)).bind fun (z13:Bool)=>some z13) ((Yz a0.Kids (IntKind.i64.wrap (a0.Kind - 2))).bind fun y20=>some y20))))))
noncomputable def Gq (Xa:(Za→Int→Option Bool)) (a0:(List Za)) (a1:Int) (s0_:Int):Option (Int ⊕ (Unit ⊕ Unit)) :=
 cond (decide (s0_ < (a0.length:Int))) ((Y9 a0 s0_).bind fun x2=>(Xa x2 a1).bind fun y4=>cond (!y4) (some (.inr (.inl ()))) (some (.inl (IntKind.i64.wrap (s0_+1))))) (some (.inr (.inr ())))
noncomputable def Zce (Xd:(Za→Option Bool)) (Xa:(Za→Int→Option Bool)) (Yw:((List Za)→Int→Option Bool)) (Yz:((List Za)→Int→Option Bool)) (a0:(List Za)) (a1:Int):Option Bool :=
 (Zw (Gq Xa a0 a1) 0).bind fun (z7:(Unit ⊕ Unit))=>match z7 with | .inl z7=>some false | .inr z7=>some true
noncomputable def Gp (Xd:(Za→Option Bool)) (a0:(List Za)) (a1:Int) (s0_:Int):Option (Int ⊕ (Unit ⊕ Unit)) :=
 cond (decide (s0_ < (a0.length:Int))) ((Y9 a0 s0_).bind fun x2=>(cond (x2.Kind != 10) (some true) ((Xd x2).bind fun y10=>cond y10 ((Y9 x2.Words 0).bind fun x11=>(Ze4 a1 x11).bind fun y12=>some (cond (cond (x2.Kind != 10) true (!y10)) true (!y12))) (some true))).bind fun (z6:Bool)=>cond z6 (some (.inr (.inl ()))) (some (.inl (IntKind.i64.wrap (s0_+1))))) (some (.inr (.inr ())))
noncomputable def Zcd (Xd:(Za→Option Bool)) (Xa:(Za→Int→Option Bool)) (Yw:((List Za)→Int→Option Bool)) (Yz:((List Za)→Int→Option Bool)) (a0:(List Za)) (a1:Int):Option Bool :=
 (Zw (Gp Xd a0 a1) 0).bind fun (z17:(Unit ⊕ Unit))=>match z17 with | .inl z17=>some false | .inr z17=>some true
noncomputable def Zz:Nat→((Za→Option Bool)×(Za→Int→Option Bool)×((List Za)→Int→Option Bool)×((List Za)→Int→Option Bool))
 | 0=>((fun _=>none),(fun _ _=>none),(fun _ _=>none),(fun _ _=>none))
 | k+1=>(Zfk ((Zz k).1) ((Zz k).2.1) ((Zz k).2.2.1) ((Zz k).2.2.2),Zfl ((Zz k).1) ((Zz k).2.1) ((Zz k).2.2.1) ((Zz k).2.2.2),Zce ((Zz k).1) ((Zz k).2.1) ((Zz k).2.2.1) ((Zz k).2.2.2),Zcd ((Zz k).1) ((Zz k).2.1) ((Zz k).2.2.1) ((Zz k).2.2.2))
noncomputable def Znb (a0:Za):Option Bool:=lim fun k=>(Zz k).1 a0
noncomputable def Zkq (a0:Int):Option Bool :=
 some (cond (decide (2≤a0)) (decide (a0≤7)) false)
noncomputable def Ze5 (a0:Int) (a1:Int):Option Int :=
 (Jh a0).bind fun y2=>cond (cond (cond (!y2.2) true (decide (a1 < 0))) true (decide (1099511627776 < a1))) (some 0) (some (IntKind.i64.wrap (Int.tdiv (IntKind.i64.wrap ((IntKind.i64.wrap (a1 * y2.1))+63)) 64)))
noncomputable def Zci (a0:Za) (s0_:(Int×Int×Int)):Option ((Int×Int×Int) ⊕ (Int×Int)) :=
 cond (decide (s0_.2.2 < (a0.Kids.length:Int))) ((Y9 a0.Kids s0_.2.2).bind fun x2=>some (.inl ((if s0_.1 < (x2.Words.length:Int) then (x2.Words.length:Int) else s0_.1),(if s0_.2.1 < (x2.Kids.length:Int) then (x2.Kids.length:Int) else s0_.2.1),(IntKind.i64.wrap (s0_.2.2+1))))) (some (.inr (s0_.1,s0_.2.1)))
noncomputable def Zb8 (a0:Za):Option (Int×Int) :=
 (Zw (Zci a0) (0,0,0)).bind fun (z4:(Int×Int))=>some (z4.1,z4.2)
noncomputable def Zbh (Qx:((List Za)→Option Int)) (a0:Za) (s0_:(Int×Int)):Option ((Int×Int) ⊕ Int) :=
 cond (decide (s0_.2 < (a0.Kids.length:Int))) ((Y9 a0.Kids s0_.2).bind fun x12=>(Qx x12.Kids).bind fun y13=>some (.inl ((IntKind.i64.wrap (s0_.1+y13)),(IntKind.i64.wrap (s0_.2+1))))) (some (.inr s0_.1))
noncomputable def Zhm (Vr:(Za→Option Int)) (Qx:((List Za)→Option Int)) (a0:Za):Option Int :=
 cond (a0.Kind == 1) ((Qx a0.Kids).bind fun y2=>some (IntKind.i64.wrap ((IntKind.i64.wrap ((a0.Words.length:Int)+(a0.Kids.length:Int)))+y2))) ((Zkq a0.Kind).bind fun y4=>cond y4 ((Ze5 (IntKind.i64.wrap (a0.Kind - 2)) (a0.Kids.length:Int)).bind fun y6=>some y6) (cond (a0.Kind == 8) ((Qx a0.Kids).bind fun y8=>some (IntKind.i64.wrap ((a0.Kids.length:Int)+y8))) (cond (a0.Kind == 9) ((Zb8 a0).bind fun y10=>(Zw (Zbh Qx a0) ((IntKind.i64.wrap (1+(IntKind.i64.wrap ((a0.Kids.length:Int) * (IntKind.i64.wrap (y10.1+y10.2)))))),0)).bind fun (z15:Int)=>some z15) (some 0))))
noncomputable def Zaj (Vr:(Za→Option Int)) (a0:(List Za)) (s0_:(Int×Int)):Option ((Int×Int) ⊕ Int) :=
 cond (decide (s0_.2 < (a0.length:Int))) ((Y9 a0 s0_.2).bind fun x2=>(Vr x2).bind fun y3=>some (.inl ((IntKind.i64.wrap (s0_.1+y3)),(IntKind.i64.wrap (s0_.2+1))))) (some (.inr s0_.1))
noncomputable def Zfm (Vr:(Za→Option Int)) (Qx:((List Za)→Option Int)) (a0:(List Za)):Option Int :=
 (Zw (Zaj Vr a0) (0,0)).bind fun (z5:Int)=>some z5
noncomputable def Xg:Nat→((Za→Option Int)×((List Za)→Option Int))
 | 0=>((fun _=>none),(fun _=>none))
 | k+1=>(Zhm ((Xg k).1) ((Xg k).2),Zfm ((Xg k).1) ((Xg k).2))
noncomputable def Zoi (a0:Za):Option Int:=lim fun k=>(Xg k).1 a0
noncomputable def Zhs (a0:Za):Option Int :=
 (Zhr a0).bind fun y3=>(Zoi y3).bind fun y4=>some y4
noncomputable def V9 (a0:Za):Option Zx :=
 cond (a0.Kind == 1) (some (⟨1,0,(a0.Words.length:Int),(a0.Kids.length:Int),0,0,0,false⟩:Zx)) (cond (a0.Kind == 9) ((Zb8 a0).bind fun y2=>some (⟨2,0,0,0,7,(IntKind.i64.wrap ((a0.Kids.length:Int) * (IntKind.i64.wrap (y2.1+y2.2)))),0,false⟩:Zx)) (some (⟨2,0,0,0,(IntKind.i64.wrap (a0.Kind - 2)),(a0.Kids.length:Int),0,false⟩:Zx)))
noncomputable def Zlx (a0:Zx):Option Int :=
 cond (a0.Kind == 1) (some (IntKind.u64.wrap (Zdb .u64 (IntKind.u64.wrap (Zdb .u64 (IntKind.u64.wrap (IntKind.u32.wrap ((IntKind.u32.wrap a0.Off) * 2 ^ min (Int.toNat 2) 32))) (IntKind.u64.wrap ((IntKind.u64.wrap a0.Data) * 2 ^ min (Int.toNat 32) 64)))) (IntKind.u64.wrap ((IntKind.u64.wrap a0.Ptrs) * 2 ^ min (Int.toNat 48) 64))))) (cond (a0.Kind == 2) (some (IntKind.u64.wrap (Zdb .u64 (IntKind.u64.wrap (Zdb .u64 (IntKind.u64.wrap (Zdb .u64 1 (IntKind.u64.wrap (IntKind.u32.wrap ((IntKind.u32.wrap a0.Off) * 2 ^ min (Int.toNat 2) 32))))) (IntKind.u64.wrap ((IntKind.u64.wrap a0.Code) * 2 ^ min (Int.toNat 32) 64)))) (IntKind.u64.wrap ((IntKind.u64.wrap a0.Count) * 2 ^ min (Int.toNat 35) 64))))) (cond (a0.Kind == 3) ((cond a0.Double (some (IntKind.u64.wrap (Zdb .u64 (IntKind.u64.wrap (Zdb .u64 (IntKind.u64.wrap (Zdb .u64 2 (IntKind.u64.wrap ((IntKind.u64.wrap a0.Off) * 2 ^ min (Int.toNat 3) 64)))) (IntKind.u64.wrap ((IntKind.u64.wrap a0.Segment) * 2 ^ min (Int.toNat 32) 64)))) 4))) (some (IntKind.u64.wrap (Zdb .u64 (IntKind.u64.wrap (Zdb .u64 2 (IntKind.u64.wrap ((IntKind.u64.wrap a0.Off) * 2 ^ min (Int.toNat 3) 64)))) (IntKind.u64.wrap ((IntKind.u64.wrap a0.Segment) * 2 ^ min (Int.toNat 32) 64)))))).bind fun (z1:Int)=>some z1) (some 0)))
noncomputable def Ua (a0:Zx):Option (Int×Bool) :=
 (Zlx a0).bind fun y2=>(cond (a0.Kind != 4) ((K7 y2).bind fun y6=>some (cond (a0.Kind != 4) ((y6.Kind == a0.Kind) && ((y6.Off == a0.Off) && ((y6.Data == a0.Data) && ((y6.Ptrs == a0.Ptrs) && ((y6.Code == a0.Code) && ((y6.Count == a0.Count) && ((y6.Segment == a0.Segment) && (y6.Double == a0.Double)))))))) false)) (some false)).bind fun (z4:Bool)=>some (y2,z4)
noncomputable def Zht (a0:Za) (a1:Int):Option Int :=
 cond (cond (decide (a1 < 0)) true (decide ((a0.Words.length:Int)≤a1))) (some 0) ((Y9 a0.Words a1).bind fun x2=>some x2)
noncomputable def Zcv (a0:Int) (a1:(List Int)) (s0_:(Bool×Int)):Option ((Bool×Int) ⊕ Bool) :=
 cond (decide (s0_.2 < (a1.length:Int))) ((Y9 a1 s0_.2).bind fun x4=>cond s0_.1 ((Ze4 a0 x4).bind fun y5=>some (.inl ((cond s0_.1 y5 false),(IntKind.i64.wrap (s0_.2+1))))) (some (.inl (false,(IntKind.i64.wrap (s0_.2+1)))))) (some (.inr s0_.1))
noncomputable def Za6 (a1:(List Int)) (y2:(Int×Bool)) (s1_:(Int×(List Int))):Option ((Int×(List Int)) ⊕ (List Int)) :=
 cond (decide (s1_.1 < (a1.length:Int))) ((Y9 a1 s1_.1).bind fun x16=>(Xj ((IntKind.i64.wrap (Int.tdiv 64 y2.1))≠0)).bind fun u17=>(Y9 s1_.2 (IntKind.i64.wrap (Int.tdiv s1_.1 (IntKind.i64.wrap (Int.tdiv 64 y2.1))))).bind fun x18=>(Xj ((IntKind.i64.wrap (Int.tdiv 64 y2.1))≠0)).bind fun u19=>(Xj (0≤(IntKind.i64.wrap ((Int.tmod s1_.1 (IntKind.i64.wrap (Int.tdiv 64 y2.1))) * y2.1)))).bind fun u20=>some (.inl ((IntKind.i64.wrap (s1_.1+1)),(Kc s1_.2 (IntKind.i64.wrap (Int.tdiv s1_.1 (IntKind.i64.wrap (Int.tdiv 64 y2.1)))) (IntKind.u64.wrap (Zdb .u64 x18 (IntKind.u64.wrap (x16 * 2 ^ min (Int.toNat (IntKind.i64.wrap ((Int.tmod s1_.1 (IntKind.i64.wrap (Int.tdiv 64 y2.1))) * y2.1))) 64)))))))) (some (.inr s1_.2))
noncomputable def Zgu (a0:Int) (a1:(List Int)):Option ((List Int)×Bool) :=
 (Jh a0).bind fun y2=>(Zw (Zcv a0 a1) (y2.2,0)).bind fun (z8:Bool)=>cond (!z8) (some (([]:(List Int)),false)) ((Ze5 a0 (a1.length:Int)).bind fun y11=>(Zic 8 y11 (0:Int)).bind fun l12=>cond (y2.1 == 0) (some (l12,true)) ((Xj (y2.1≠0)).bind fun u14=>(Zw (Za6 a1 y2) (0,l12)).bind fun (z24:(List Int))=>some (z24,true)))
noncomputable def Gu (a0:Za) (s0_:(Int×(List Int))):Option ((Int×(List Int)) ⊕ (List Int)) :=
 cond (decide (s0_.1 < (a0.Kids.length:Int))) ((Y9 a0.Kids s0_.1).bind fun x2=>(Zht x2 0).bind fun y3=>(Zhj 8 s0_.2 ([y3]:List Int)).bind fun l4=>some (.inl ((IntKind.i64.wrap (s0_.1+1)),l4))) (some (.inr s0_.2))
noncomputable def Zch (a0:Za):Option (List Int) :=
 (Zw (Gu a0) (0,([]:List Int))).bind fun (z6:(List Int))=>(Zgu (IntKind.i64.wrap (a0.Kind - 2)) z6).bind fun y8=>some y8.1
structure Zg where
 words:(List Int)
 next:Int
noncomputable def Ql (Ye:(Zg→Int→Za→Option Zg)) (Yb:(Zg→Int→Za→Option Zg)) (Z3:(Zg→Int→(List Za)→Option Zg)) (Yc:(Zg→Int→Za→Option Zg)) (a0:Zg) (a1:Int) (a2:Za):Option Zg :=
 cond (a2.Kind == 0) (some (⟨a0.words,a0.next⟩:Zg)) ((V9 a2).bind fun y2=>(X5 y2).bind fun y4=>(cond (cond (y2.Kind == 1) (y4.1 == 0) false) (some (-1)) (some (IntKind.i64.wrap ((IntKind.i64.wrap (a0.next - a1)) - 1)))).bind fun (z5:Int)=>(Ua (⟨y2.Kind,z5,y2.Data,y2.Ptrs,y2.Code,y2.Count,y2.Segment,y2.Double⟩:Zx)).bind fun y10=>(Y9 a0.words a1).bind fun x11=>(Yb (⟨(Kc a0.words a1 y10.1),(IntKind.i64.wrap (a0.next+y4.1))⟩:Zg) a0.next a2).bind fun y13=>some (⟨y13.words,y13.next⟩:Zg))
noncomputable def X0 (Ye:(Zg→Int→Za→Option Zg)) (Yb:(Zg→Int→Za→Option Zg)) (Z3:(Zg→Int→(List Za)→Option Zg)) (Yc:(Zg→Int→Za→Option Zg)) (a0:Zg) (a1:Int) (a2:Za):Option Zg :=
 cond (a2.Kind == 1) ((Xj (0 < List.length a0.words∧0≤a1∧a1≤(List.length a0.words:Int))).bind fun u1=>(Z3 (⟨(Zlh a0.words a1 a2.Words),a0.next⟩:Zg) (IntKind.i64.wrap (a1+((min (List.length a2.Words) (Int.toNat ((List.length a0.words:Int) - a1)):Nat):Int))) a2.Kids).bind fun y3=>some (⟨y3.words,y3.next⟩:Zg)) (cond (a2.Kind == 8) ((Z3 (⟨a0.words,a0.next⟩:Zg) a1 a2.Kids).bind fun y4=>some (⟨y4.words,y4.next⟩:Zg)) (cond (a2.Kind == 9) ((Yc (⟨a0.words,a0.next⟩:Zg) a1 a2).bind fun y5=>some (⟨y5.words,y5.next⟩:Zg)) ((Xj (0 < List.length a0.words∧0≤a1∧a1≤(List.length a0.words:Int))).bind fun u6=>(Zch a2).bind fun y7=>some (⟨(Zlh a0.words a1 y7),a0.next⟩:Zg))))
noncomputable def Jl (Ye:(Zg→Int→Za→Option Zg)) (a1:Int) (a2:(List Za)) (s0_:(Int×(List Int)×Int)):Option ((Int×(List Int)×Int) ⊕ ((List Int)×Int)) :=
 cond (decide (s0_.1 < (a2.length:Int))) ((Y9 a2 s0_.1).bind fun x2=>(Ye (⟨s0_.2.1,s0_.2.2⟩:Zg) (IntKind.i64.wrap (a1+s0_.1)) x2).bind fun y3=>some (.inl ((IntKind.i64.wrap (s0_.1+1)),y3.words,y3.next))) (some (.inr (s0_.2.1,s0_.2.2)))
noncomputable def K2 (Ye:(Zg→Int→Za→Option Zg)) (Yb:(Zg→Int→Za→Option Zg)) (Z3:(Zg→Int→(List Za)→Option Zg)) (Yc:(Zg→Int→Za→Option Zg)) (a0:Zg) (a1:Int) (a2:(List Za)):Option Zg :=
 (Zw (Jl Ye a1 a2) (0,a0.words,a0.next)).bind fun (z5:((List Int)×Int))=>some (⟨z5.1,z5.2⟩:Zg)
noncomputable def J5 (a1:Int) (a2:Za) (y2:(Int×Int)) (s0_:(Int×(List Int))):Option ((Int×(List Int)) ⊕ (List Int)) :=
 cond (decide (s0_.1 < (a2.Kids.length:Int))) ((Y9 a2.Kids s0_.1).bind fun x9=>(Xj (0 < List.length s0_.2∧0≤(IntKind.i64.wrap ((IntKind.i64.wrap (a1+1))+(IntKind.i64.wrap (s0_.1 * (IntKind.i64.wrap (y2.1+y2.2))))))∧(IntKind.i64.wrap ((IntKind.i64.wrap (a1+1))+(IntKind.i64.wrap (s0_.1 * (IntKind.i64.wrap (y2.1+y2.2))))))≤(List.length s0_.2:Int))).bind fun u10=>some (.inl ((IntKind.i64.wrap (s0_.1+1)),(Zlh s0_.2 (IntKind.i64.wrap ((IntKind.i64.wrap (a1+1))+(IntKind.i64.wrap (s0_.1 * (IntKind.i64.wrap (y2.1+y2.2)))))) x9.Words)))) (some (.inr s0_.2))
noncomputable def J6 (Z3:(Zg→Int→(List Za)→Option Zg)) (a1:Int) (a2:Za) (y2:(Int×Int)) (s1_:(Int×(List Int)×Int)):Option ((Int×(List Int)×Int) ⊕ ((List Int)×Int)) :=
 cond (decide (s1_.1 < (a2.Kids.length:Int))) ((Y9 a2.Kids s1_.1).bind fun x15=>(Z3 (⟨s1_.2.1,s1_.2.2⟩:Zg) (IntKind.i64.wrap ((IntKind.i64.wrap ((IntKind.i64.wrap (a1+1))+(IntKind.i64.wrap (s1_.1 * (IntKind.i64.wrap (y2.1+y2.2))))))+y2.1)) x15.Kids).bind fun y16=>some (.inl ((IntKind.i64.wrap (s1_.1+1)),y16.words,y16.next))) (some (.inr (s1_.2.1,s1_.2.2)))
noncomputable def Vw (Ye:(Zg→Int→Za→Option Zg)) (Yb:(Zg→Int→Za→Option Zg)) (Z3:(Zg→Int→(List Za)→Option Zg)) (Yc:(Zg→Int→Za→Option Zg)) (a0:Zg) (a1:Int) (a2:Za):Option Zg :=
 (Zb8 a2).bind fun y2=>(cond (decide (0 < (a2.Kids.length:Int))) ((Ua (⟨1,(a2.Kids.length:Int),y2.1,y2.2,0,0,0,false⟩:Zx)).bind fun y4=>(Y9 a0.words a1).bind fun x5=>some (Kc a0.words a1 y4.1)) (some a0.words)).bind fun (z3:(List Int))=>(Zw (J5 a1 a2 y2) (0,z3)).bind fun (z13:(List Int))=>(Zw (J6 Z3 a1 a2 y2) (0,z13,a0.next)).bind fun (z18:((List Int)×Int))=>some (⟨z18.1,z18.2⟩:Zg)
noncomputable def Zk:Nat→((Zg→Int→Za→Option Zg)×(Zg→Int→Za→Option Zg)×(Zg→Int→(List Za)→Option Zg)×(Zg→Int→Za→Option Zg))
 | 0=>((fun _ _ _=>none),(fun _ _ _=>none),(fun _ _ _=>none),(fun _ _ _=>none))
 | k+1=>(Ql ((Zk k).1) ((Zk k).2.1) ((Zk k).2.2.1) ((Zk k).2.2.2),X0 ((Zk k).1) ((Zk k).2.1) ((Zk k).2.2.1) ((Zk k).2.2.2),K2 ((Zk k).1) ((Zk k).2.1) ((Zk k).2.2.1) ((Zk k).2.2.2),Vw ((Zk k).1) ((Zk k).2.1) ((Zk k).2.2.1) ((Zk k).2.2.2))
noncomputable def Zbb (a0:Zg) (a1:Int) (a2:Za):Option Zg:=lim fun k=>(Zk k).1 a0 a1 a2
noncomputable def Zbl (a0:Za) (a1:Int):Option ((List Int)×Bool) :=
 (cond (a0.Kind == 10) (some true) ((Znb a0).bind fun y4=>some (cond (a0.Kind == 10) true (!y4)))).bind fun (z2:Bool)=>cond z2 (some (([]:(List Int)),false)) ((Zhr a0).bind fun y7=>(Zhs y7).bind fun y9=>cond (cond (decide (a1 < (IntKind.i64.wrap (1+y9)))) true (decide (131072 < (IntKind.i64.wrap (1+y9))))) (some (([]:(List Int)),false)) ((Zic 8 (IntKind.i64.wrap (1+y9)) (0:Int)).bind fun l11=>(Zbb (⟨l11,1⟩:Zg) 0 y7).bind fun y13=>some (y13.words,true)))
noncomputable def Xz (a0:(List Int)) (a1:(List Int)) (s0_:Int):Option (Int ⊕ (Unit ⊕ Unit)) :=
 cond (decide (s0_ < (a0.length:Int))) ((Y9 a0 s0_).bind fun x3=>(Y9 a1 s0_).bind fun x4=>cond (x3 != x4) (some (.inr (.inl ()))) (some (.inl (IntKind.i64.wrap (s0_+1))))) (some (.inr (.inr ())))
noncomputable def Qe (a0:(List Int)) (a1:(List Int)):Option Bool :=
 cond ((a0.length:Int) != (a1.length:Int)) (some false) ((Zw (Xz a0 a1) 0).bind fun (z7:(Unit ⊕ Unit))=>match z7 with | .inl z7=>some false | .inr z7=>some true)
noncomputable def Zfs (a0:(List Int)) (a1:Z0):Option (Za×Int) :=
 (Zju ([a0]:List (List Int))).bind fun y25=>(Zbq y25 a1).bind fun y49=>cond (y49.2 != 0) (some ((⟨0,[],[]⟩:Za),y49.2)) ((Zbl y49.1 (a0.length:Int)).bind fun y134=>(cond y134.2 ((Qe y134.1 a0).bind fun y138=>some (cond (!y134.2) true (!y138))) (some true)).bind fun (z136:Bool)=>cond z136 (some ((⟨0,[],[]⟩:Za),5)) (some (y49.1,0)))
noncomputable def Qn (a0:Int) (a1:Int):Option Int :=
 cond (decide (a0 < 0)) (some 0) (cond (decide (a1 < a0)) (some a1) (some a0))
noncomputable def U3 (a0:Z0):Option Z0 :=
 (Qn a0.Depth 64).bind fun y5=>(Qn a0.Weight 65536).bind fun y6=>(Qn a0.MaxD 4096).bind fun y7=>(Qn a0.MaxOut 131072).bind fun y8=>some (⟨y5,y6,y7,y8⟩:Z0)
noncomputable def Kt (a0:(List (List Int))) (a1:Int) (a2:Int):Option Bool :=
 (cond (decide (0≤a1)) (cond (decide (a1 < (a0.length:Int))) (cond (decide (0≤a2)) ((Y9 a0 a1).bind fun x4=>some (cond (cond (cond (decide (0≤a1)) (decide (a1 < (a0.length:Int))) false) (decide (0≤a2)) false) (decide (a2 < (x4.length:Int))) false)) (some false)) (some false)) (some false)).bind fun (z2:Bool)=>some z2
noncomputable def Zae (a1:Int) (s0_:(Int×Int)):Option ((Int×Int) ⊕ Int) :=
 cond (decide (s0_.2 < a1)) (some (.inl ((IntKind.u64.wrap (Int.tdiv s0_.1 2)),(IntKind.i64.wrap (s0_.2+1))))) (some (.inr s0_.1))
noncomputable def Zaf (a2:Int) (s1_:(Int×Int×Int×Int)):Option ((Int×Int×Int×Int) ⊕ Int) :=
 cond (decide (s1_.2.2.2 < a2)) ((cond ((Int.tmod s1_.1 2) == 1) (some (IntKind.i64.wrap (s1_.2.1+s1_.2.2.1))) (some s1_.2.1)).bind fun (z3:Int)=>some (.inl ((IntKind.u64.wrap (Int.tdiv s1_.1 2)),z3,(IntKind.i64.wrap (2 * s1_.2.2.1)),(IntKind.i64.wrap (s1_.2.2.2+1))))) (some (.inr s1_.2.1))
noncomputable def Ya (a0:Int) (a1:Int) (a2:Int):Option Int :=
 (Zw (Zae a1) (a0,0)).bind fun (z2:Int)=>(Zw (Zaf a2) (z2,0,1,0)).bind fun (z6:Int)=>some z6
noncomputable def Xp (a0:Int):Option Zx :=
 cond (a0 == 0) (some (⟨0,0,0,0,0,0,0,false⟩:Zx)) ((Ya a0 2 30).bind fun y2=>(cond (decide (536870912≤y2)) (some (IntKind.i64.wrap (y2 - 1073741824))) (some y2)).bind fun (z3:Int)=>(Ya a0 0 2).bind fun y6=>cond (y6 == 0) ((Ya a0 32 16).bind fun y9=>(Ya a0 48 16).bind fun y10=>some (⟨1,z3,y9,y10,0,0,0,false⟩:Zx)) (cond (y6 == 1) ((Ya a0 32 3).bind fun y13=>(Ya a0 35 29).bind fun y14=>some (⟨2,z3,0,0,y13,y14,0,false⟩:Zx)) (cond (y6 == 2) ((Ya a0 3 29).bind fun y18=>(Ya a0 32 32).bind fun y19=>(Ya a0 2 1).bind fun y20=>some (⟨3,y18,0,0,0,0,y19,(y20 == 1)⟩:Zx)) (some (⟨4,0,0,0,0,0,0,false⟩:Zx)))))
noncomputable def Kl (a0:Zx):Option Int :=
 cond (a0.Kind == 4) (some 9) (cond (cond (a0.Kind != 1) (a0.Kind != 2) false) (some 8) (some 0))
noncomputable def Gw (a0:Zx):Option Int :=
 cond (a0.Kind == 1) (some (IntKind.i64.wrap (a0.Data+a0.Ptrs))) (cond (a0.Kind != 2) (some (-1)) (cond (a0.Code == 7) (some (IntKind.i64.wrap (a0.Count+1))) (cond (cond (cond (cond (decide (a0.Code < 0)) true (decide (6 < a0.Code))) true (decide (a0.Count < 0))) true (decide (536870912≤a0.Count))) (some (-1)) ((cond (a0.Code == 0) (some (.inr ())) (cond (a0.Code == 1) (some (.inl 64)) (cond (a0.Code == 2) (some (.inl 8)) (cond (a0.Code == 3) (some (.inl 4)) (cond (a0.Code == 4) (some (.inl 2)) (some (.inl 1))))))).bind fun (z1:(Int ⊕ Unit))=>match z1 with | .inl z1=>(Xj (z1≠0)).bind fun u8=>cond (decide (0 < (Int.tmod a0.Count z1))) ((Xj (z1≠0)).bind fun u10=>some (IntKind.i64.wrap ((IntKind.i64.wrap (Int.tdiv a0.Count z1))+1))) ((Xj (z1≠0)).bind fun u12=>some (IntKind.i64.wrap (Int.tdiv a0.Count z1))) | .inr z1=>some 0))))
structure Yf where
 P:Zx
 Segment:Int
 At:Int
noncomputable def Km (a0:(List (List Int))) (a1:Yf):Option (Yf×Int) :=
 (Gw a1.P).bind fun y2=>(cond (decide (a1.Segment < 0)) (some true) (cond (decide ((a0.length:Int)≤a1.Segment)) (some true) (cond (decide (a1.At < 0)) (some true) ((Y9 a0 a1.Segment).bind fun x8=>cond (decide ((x8.length:Int) < a1.At)) (some true) (some (cond (cond (cond (cond (decide (a1.Segment < 0)) true (decide ((a0.length:Int)≤a1.Segment))) true (decide (a1.At < 0))) true (decide ((x8.length:Int) < a1.At))) true (decide ((IntKind.i64.wrap ((x8.length:Int) - a1.At)) < y2)))))))).bind fun (z5:Bool)=>cond z5 (some ((⟨⟨0,0,0,0,0,0,0,false⟩,0,0⟩:Yf),7)) (some ((⟨⟨a1.P.Kind,0,a1.P.Data,a1.P.Ptrs,a1.P.Code,a1.P.Count,a1.P.Segment,a1.P.Double⟩,a1.Segment,a1.At⟩:Yf),0))
noncomputable def Vi (a0:(List (List Int))) (a1:Int) (a2:Int):Option (Yf×Int) :=
 (Kt a0 a1 a2).bind fun y2=>cond (!y2) (some ((⟨⟨0,0,0,0,0,0,0,false⟩,0,0⟩:Yf),7)) ((Y9 a0 a1).bind fun x6=>(Y9 x6 a2).bind fun x7=>(Xp x7).bind fun y8=>cond (y8.Kind == 0) (some ((⟨⟨0,0,0,0,0,0,0,false⟩,0,0⟩:Yf),0)) (cond (cond (y8.Kind == 3) y8.Double false) (((Kt a0 y8.Segment y8.Off).bind fun y14=>cond y14 ((Kt a0 y8.Segment (IntKind.i64.wrap (y8.Off+1))).bind fun y15=>some (cond (!y14) true (!y15))) (some true)).bind fun (z11:Bool)=>cond z11 (some ((⟨⟨0,0,0,0,0,0,0,false⟩,0,0⟩:Yf),7)) ((Y9 a0 y8.Segment).bind fun x17=>(Y9 x17 y8.Off).bind fun x18=>(Xp x18).bind fun y19=>(Y9 x17 (IntKind.i64.wrap (y8.Off+1))).bind fun x21=>(Xp x21).bind fun y22=>cond (cond (y19.Kind != 3) true y19.Double) (some ((⟨⟨0,0,0,0,0,0,0,false⟩,0,0⟩:Yf),8)) ((Kl y22).bind fun y24=>(cond (cond (y24 == 0) (y22.Off != 0) false) (some 8) (some y24)).bind fun (z25:Int)=>cond (z25 != 0) (some ((⟨⟨0,0,0,0,0,0,0,false⟩,0,0⟩:Yf),z25)) ((Km a0 (⟨y22,y19.Segment,y19.Off⟩:Yf)).bind fun y28=>some (y28.1,y28.2))))) ((cond (y8.Kind == 3) ((Kt a0 y8.Segment y8.Off).bind fun y34=>cond (!y34) (some (.inr ())) ((Y9 a0 y8.Segment).bind fun x35=>(Y9 x35 y8.Off).bind fun x36=>(Xp x36).bind fun y37=>some (.inl (y8.Segment,y8.Off,y37.Kind,y37.Off,y37.Data,y37.Ptrs,y37.Code,y37.Count,y37.Segment,y37.Double)))) (some (.inl (a1,a2,y8.Kind,y8.Off,y8.Data,y8.Ptrs,y8.Code,y8.Count,y8.Segment,y8.Double)))).bind fun (z32:((Int×Int×Int×Int×Int×Int×Int×Int×Int×Bool) ⊕ Unit))=>match z32 with | .inl z32=>(Kl (⟨z32.2.2.1,z32.2.2.2.1,z32.2.2.2.2.1,z32.2.2.2.2.2.1,z32.2.2.2.2.2.2.1,z32.2.2.2.2.2.2.2.1,z32.2.2.2.2.2.2.2.2.1,z32.2.2.2.2.2.2.2.2.2⟩:Zx)).bind fun y41=>cond (y41 != 0) (some ((⟨⟨0,0,0,0,0,0,0,false⟩,0,0⟩:Yf),y41)) ((Km a0 (⟨⟨z32.2.2.1,z32.2.2.2.1,z32.2.2.2.2.1,z32.2.2.2.2.2.1,z32.2.2.2.2.2.2.1,z32.2.2.2.2.2.2.2.1,z32.2.2.2.2.2.2.2.2.1,z32.2.2.2.2.2.2.2.2.2⟩,z32.1,(IntKind.i64.wrap ((IntKind.i64.wrap (z32.2.1+1))+z32.2.2.2.1))⟩:Yf)).bind fun y43=>some (y43.1,y43.2)) | .inr z32=>some ((⟨⟨0,0,0,0,0,0,0,false⟩,0,0⟩:Yf),7))))
structure Zr where
 Kind:Int
 S:Int
 At:Int
 Data:Int
 Ptrs:Int
 Count:Int
 N:Int
noncomputable def Ux (a0:(List (List Int))) (a1:Int) (a2:Int):Option (Zr×Int) :=
 (Vi a0 a1 a2).bind fun y2=>cond (cond (y2.2 != 0) true (y2.1.P.Kind == 0)) (some ((⟨0,0,0,0,0,0,0⟩:Zr),y2.2)) (cond (y2.1.P.Kind == 1) (some ((⟨1,y2.1.Segment,y2.1.At,y2.1.P.Data,y2.1.P.Ptrs,0,0⟩:Zr),0)) (cond (decide (y2.1.P.Code < 7)) (some ((⟨(IntKind.i64.wrap (2+y2.1.P.Code)),y2.1.Segment,y2.1.At,0,0,y2.1.P.Count,0⟩:Zr),0)) ((Y9 a0 y2.1.Segment).bind fun x5=>(Y9 x5 y2.1.At).bind fun x6=>(Xp x6).bind fun y8=>cond (cond (cond (cond (x6 != 0) (y8.Kind != 1) false) true (decide (y8.Off < 0))) true (decide (y2.1.P.Count < (IntKind.i64.wrap (y8.Off * (IntKind.i64.wrap (y8.Data+y8.Ptrs))))))) (some ((⟨0,0,0,0,0,0,0⟩:Zr),8)) (some ((⟨9,y2.1.Segment,(IntKind.i64.wrap (y2.1.At+1)),y8.Data,y8.Ptrs,y8.Off,0⟩:Zr),0)))))
noncomputable def Qc (a0:Zr) (a1:(List (List Int))):Option (List Int) :=
 cond (a0.Kind == 10) (some ([a0.N]:List Int)) (cond (a0.Kind != 1) (some ([]:(List Int))) ((Y9 a1 a0.S).bind fun x4=>(Zin x4 a0.At (IntKind.i64.wrap (a0.At+a0.Data))).bind fun l5=>(Zhj 8 ([]:List Int) l5).bind fun l6=>some l6))
noncomputable def Qq (a0:Zr):Option Int :=
 cond (a0.Kind == 1) (some a0.Ptrs) (some a0.Count)
noncomputable def Xl (a0:Int):Option Int :=
 cond (a0 == 0) (some 0) (cond (a0 == 1) (some 1) (cond (a0 == 2) (some 8) (cond (a0 == 3) (some 16) (cond (a0 == 4) (some 32) (cond (a0 == 5) (some 64) (some (-1)))))))
noncomputable def Vg (a1:Int) (s0_:(Int×Int)):Option ((Int×Int) ⊕ Int) :=
 cond (decide (s0_.2 < (Int.tmod a1 64))) (some (.inl ((IntKind.u64.wrap (Int.tdiv s0_.1 2)),(IntKind.i64.wrap (s0_.2+1))))) (some (.inr s0_.1))
noncomputable def Zbm (a0:(List Int)) (a1:Int):Option Int :=
 cond (cond (decide (a1 < 0)) true (decide ((a0.length:Int)≤(IntKind.i64.wrap (Int.tdiv a1 64))))) (some 0) ((Y9 a0 (IntKind.i64.wrap (Int.tdiv a1 64))).bind fun x2=>(Zw (Vg a1) (x2,0)).bind fun (z4:Int)=>some (Int.tmod z4 2))
noncomputable def Vh (a0:(List Int)) (a2:Int) (y2:Int) (s0_:(Int×Int)):Option ((Int×Int) ⊕ Int) :=
 cond (decide (0≤s0_.2)) ((Zbm a0 (IntKind.i64.wrap ((IntKind.i64.wrap (a2 * y2))+s0_.2))).bind fun y3=>some (.inl ((IntKind.u64.wrap ((IntKind.u64.wrap (s0_.1 * 2))+y3)),(IntKind.i64.wrap (s0_.2 - 1))))) (some (.inr s0_.1))
noncomputable def Zbn (a0:(List Int)) (a1:Int) (a2:Int):Option Int :=
 (Xl a1).bind fun y2=>cond (cond (cond (decide (y2 < 1)) true (decide (a2 < 0))) true (decide (1099511627776 < a2))) (some 0) ((Zw (Vh a0 a2 y2) (0,(IntKind.i64.wrap (y2 - 1)))).bind fun (z5:Int)=>some z5)
noncomputable def Ku (a0:Zr) (a1:(List (List Int))) (a2:Int):Option (Zr×Int) :=
 (cond (decide (a2 < 0)) (some true) ((Qq a0).bind fun y4=>some (cond (decide (a2 < 0)) true (decide (y4≤a2))))).bind fun (z2:Bool)=>cond z2 (some ((⟨0,0,0,0,0,0,0⟩:Zr),0)) (cond (a0.Kind == 1) ((Ux a1 a0.S (IntKind.i64.wrap ((IntKind.i64.wrap (a0.At+a0.Data))+a2))).bind fun y7=>some (y7.1,y7.2)) (cond (a0.Kind == 8) ((Ux a1 a0.S (IntKind.i64.wrap (a0.At+a2))).bind fun y9=>some (y9.1,y9.2)) (cond (a0.Kind == 9) (some ((⟨1,a0.S,(IntKind.i64.wrap (a0.At+(IntKind.i64.wrap (a2 * (IntKind.i64.wrap (a0.Data+a0.Ptrs)))))),a0.Data,a0.Ptrs,0,0⟩:Zr),0)) ((Y9 a1 a0.S).bind fun x13=>(Zin x13 a0.At (x13.length:Int)).bind fun l14=>(Zbn l14 (IntKind.i64.wrap (a0.Kind - 2)) a2).bind fun y15=>some ((⟨10,0,0,0,0,0,y15⟩:Zr),0)))))
noncomputable def Kq (Yt:((List (List Int))→Zr→Int→Int→Option (Za×Int×Int))) (Xh:((List (List Int))→Zr→Int→Int→Option (Za×Int×Int))) (a0:(List (List Int))) (a1:Zr) (a2:Int) (s0_:(Int×Int×(List Za))):Option ((Int×Int×(List Za)) ⊕ ((Int×Int×(List Za)) ⊕ (Int×(List Za)))) :=
 (Qq a1).bind fun y10=>cond (decide (s0_.2.1 < y10)) ((Ku a1 a0 s0_.2.1).bind fun y12=>cond (y12.2 != 0) (some (.inr (.inl (s0_.1,y12.2,s0_.2.2)))) ((Qc y12.1 a0).bind fun y14=>(cond (a1.Kind == 9) ((Xh a0 y12.1 (IntKind.i64.wrap (a2 - 2)) s0_.1).bind fun y16=>some (y16.2.1,y16.2.2,y16.1.Kind,y16.1.Words,y16.1.Kids)) (cond (cond (a1.Kind == 1) true (a1.Kind == 8)) ((Yt a0 y12.1 (IntKind.i64.wrap (a2 - 1)) s0_.1).bind fun y17=>some (y17.2.1,y17.2.2,y17.1.Kind,y17.1.Words,y17.1.Kids)) (some (s0_.1,y12.2,y12.1.Kind,y14,([]:(List Za)))))).bind fun (z15:(Int×Int×Int×(List Int)×(List Za)))=>cond (z15.2.1 != 0) (some (.inr (.inl (z15.1,z15.2.1,s0_.2.2)))) ((Zhj 56 s0_.2.2 ([(⟨z15.2.2.1,z15.2.2.2.1,z15.2.2.2.2⟩:Za)]:List Za)).bind fun l20=>some (.inl (z15.1,(IntKind.i64.wrap (s0_.2.1+1)),l20))))) (some (.inr (.inr (s0_.1,s0_.2.2))))
noncomputable def Kp (Yt:((List (List Int))→Zr→Int→Int→Option (Za×Int×Int))) (Xh:((List (List Int))→Zr→Int→Int→Option (Za×Int×Int))) (a0:(List (List Int))) (a1:Zr) (a2:Int) (a3:Int):Option (Za×Int×Int) :=
 (Qc a1 a0).bind fun y2=>cond (a1.Kind == 0) (some ((⟨a1.Kind,y2,[]⟩:Za),a3,0)) (cond (cond (decide (a2 < 1)) true (cond (cond (a1.Kind == 9) (decide (0 < a1.Count)) false) (decide (a2 < 2)) false)) (some ((⟨a1.Kind,y2,[]⟩:Za),a3,3)) ((Qq a1).bind fun y4=>(cond (a1.Kind == 1) (some (IntKind.i64.wrap ((IntKind.i64.wrap (1+a1.Data))+a1.Ptrs))) (some (IntKind.i64.wrap (1+y4)))).bind fun (z5:Int)=>(cond (a1.Kind == 9) (some (IntKind.i64.wrap (1+(IntKind.i64.wrap (a1.Count * (IntKind.i64.wrap ((IntKind.i64.wrap (1+a1.Data))+a1.Ptrs))))))) (some z5)).bind fun (z7:Int)=>cond (decide (a3 < z7)) (some ((⟨a1.Kind,y2,[]⟩:Za),a3,3)) ((Zw (Kq Yt Xh a0 a1 a2) ((IntKind.i64.wrap (a3 - z7)),0,([]:List Za))).bind fun (z24:((Int×Int×(List Za)) ⊕ (Int×(List Za))))=>match z24 with | .inl z24=>some ((⟨a1.Kind,y2,z24.2.2⟩:Za),z24.1,z24.2.1) | .inr z24=>some ((⟨a1.Kind,y2,z24.2⟩:Za),z24.1,0))))
noncomputable def Uh (Yt:((List (List Int))→Zr→Int→Int→Option (Za×Int×Int))) (a0:(List (List Int))) (a1:Zr) (a2:Int) (s0_:(Int×Int×(List Za))):Option ((Int×Int×(List Za)) ⊕ ((Int×Int×(List Za)) ⊕ (Int×(List Za)))) :=
 cond (decide (s0_.2.1 < a1.Ptrs)) ((Ku a1 a0 s0_.2.1).bind fun y4=>cond (y4.2 != 0) (some (.inr (.inl (s0_.1,y4.2,s0_.2.2)))) ((Yt a0 y4.1 a2 s0_.1).bind fun y6=>cond (y6.2.2 != 0) (some (.inr (.inl (y6.2.1,y6.2.2,s0_.2.2)))) ((Zhj 56 s0_.2.2 ([y6.1]:List Za)).bind fun l7=>some (.inl (y6.2.1,(IntKind.i64.wrap (s0_.2.1+1)),l7))))) (some (.inr (.inr (s0_.1,s0_.2.2))))
noncomputable def Ul (Yt:((List (List Int))→Zr→Int→Int→Option (Za×Int×Int))) (Xh:((List (List Int))→Zr→Int→Int→Option (Za×Int×Int))) (a0:(List (List Int))) (a1:Zr) (a2:Int) (a3:Int):Option (Za×Int×Int) :=
 (Qc a1 a0).bind fun y2=>(Zw (Uh Yt a0 a1 a2) (a3,0,([]:List Za))).bind fun (z11:((Int×Int×(List Za)) ⊕ (Int×(List Za))))=>match z11 with | .inl z11=>some ((⟨1,y2,z11.2.2⟩:Za),z11.1,z11.2.1) | .inr z11=>some ((⟨1,y2,z11.2⟩:Za),z11.1,0)
noncomputable def Yx:Nat→(((List (List Int))→Zr→Int→Int→Option (Za×Int×Int))×((List (List Int))→Zr→Int→Int→Option (Za×Int×Int)))
 | 0=>((fun _ _ _ _=>none),(fun _ _ _ _=>none))
 | k+1=>(Kp ((Yx k).1) ((Yx k).2),Ul ((Yx k).1) ((Yx k).2))
noncomputable def Zdi (a0:(List (List Int))) (a1:Zr) (a2:Int) (a3:Int):Option (Za×Int×Int):=lim fun k=>(Yx k).1 a0 a1 a2 a3
noncomputable def Vj (a0:(List (List Int))) (a1:Z0):Option (Za×Int×Int) :=
 (U3 a1).bind fun y2=>(Ux a0 0 0).bind fun y4=>cond (y4.2 != 0) (some ((⟨0,[],[]⟩:Za),0,y4.2)) ((Zdi a0 y4.1 y2.Depth y2.Weight).bind fun y6=>cond (y6.2.2 != 0) (some ((⟨0,[],[]⟩:Za),0,y6.2.2)) (some (y6.1,(IntKind.i64.wrap (y2.Weight - y6.2.1)),0)))
noncomputable def Ui (a0:(List Int)) (a1:(List Int)) (s0_:Int):Option (Int ⊕ (Unit ⊕ Unit)) :=
 cond (decide (s0_ < (a0.length:Int))) ((Y9 a0 s0_).bind fun x3=>(Y9 a1 s0_).bind fun x4=>cond (x3 != x4) (some (.inr (.inl ()))) (some (.inl (IntKind.i64.wrap (s0_+1))))) (some (.inr (.inr ())))
noncomputable def Qv (a0:(List Int)) (a1:(List Int)):Option Bool :=
 cond ((a0.length:Int) != (a1.length:Int)) (some false) ((Zw (Ui a0 a1) 0).bind fun (z7:(Unit ⊕ Unit))=>match z7 with | .inl z7=>some false | .inr z7=>some true)
noncomputable def Ue (Js:(Za→Za→Option Bool)) (a0:Za) (a1:Za) (s0_:Int):Option (Int ⊕ (Unit ⊕ Unit)) :=
 cond (decide (s0_ < (a0.Kids.length:Int))) ((Y9 a0.Kids s0_).bind fun x9=>(Y9 a1.Kids s0_).bind fun x10=>(Js x9 x10).bind fun y11=>cond (!y11) (some (.inr (.inl ()))) (some (.inl (IntKind.i64.wrap (s0_+1))))) (some (.inr (.inr ())))
noncomputable def Zar (Js:(Za→Za→Option Bool)) (a0:Za) (a1:Za):Option Bool :=
 (cond (a0.Kind != a1.Kind) (some true) ((Qv a0.Words a1.Words).bind fun y4=>some (cond (cond (a0.Kind != a1.Kind) true (!y4)) true ((a0.Kids.length:Int) != (a1.Kids.length:Int))))).bind fun (z2:Bool)=>cond z2 (some false) ((Zw (Ue Js a0 a1) 0).bind fun (z14:(Unit ⊕ Unit))=>match z14 with | .inl z14=>some false | .inr z14=>some true)
noncomputable def Kj:Nat→(Za→Za→Option Bool)
 | 0=>(fun _ _=>none)
 | k+1=>Zar ((Kj k))
noncomputable def K6 (a0:Za) (a1:Za):Option Bool:=lim fun k=>(Kj k) a0 a1
noncomputable def Kk :Option Bool :=
 (Zbl (⟨1,([5]:List Int),([(⟨8,[],([(⟨0,[],[]⟩:Za)]:List Za)⟩:Za)]:List Za)⟩:Za) 9).bind fun y2=>(cond y2.2 ((Qv y2.1 ([281479271677952,5,60129542145,0]:List Int)).bind fun y6=>some (cond y2.2 y6 false)) (some false)).bind fun (z4:Bool)=>some z4
noncomputable def Uj (a0:(List Int)) (s0_:Int):Option (Int ⊕ Int) :=
 (cond (decide (0 < s0_)) ((Y9 a0 (IntKind.i64.wrap (s0_ - 1))).bind fun x4=>some (cond (decide (0 < s0_)) (x4 == 0) false)) (some false)).bind fun (z2:Bool)=>cond z2 (some (.inl (IntKind.i64.wrap (s0_ - 1)))) (some (.inr s0_))
noncomputable def Zau (a0:(List Int)):Option (List Int) :=
 (Zw (Uj a0) (a0.length:Int)).bind fun (z7:Int)=>(Zin a0 0 z7).bind fun l10=>(Zhj 8 ([]:List Int) l10).bind fun l11=>some l11
noncomputable def Q6 (Jr:(Za→Option Za)) (a0:Za) (s0_:(Int×Int×(List Za))):Option ((Int×Int×(List Za)) ⊕ (Int×(List Za))) :=
 cond (decide (s0_.2.1 < (a0.Kids.length:Int))) (((Y9 a0.Kids s0_.2.1).bind fun x4=>(Jr x4).bind fun y5=>(Zhj 56 s0_.2.2 ([y5]:List Za)).bind fun l7=>cond (y5.Kind != 0) (some ((IntKind.i64.wrap (s0_.2.1+1)),l7)) (some (s0_.1,l7))).bind fun (z1:(Int×(List Za)))=>some (.inl (z1.1,(IntKind.i64.wrap (s0_.2.1+1)),z1.2))) (some (.inr (s0_.1,s0_.2.2)))
noncomputable def Zaq (Jr:(Za→Option Za)) (a0:Za):Option Za :=
 cond (a0.Kind == 0) (some (⟨0,[],[]⟩:Za)) ((Zw (Q6 Jr a0) (0,0,([]:List Za))).bind fun (z10:(Int×(List Za)))=>cond (a0.Kind == 1) ((Zau a0.Words).bind fun y14=>(Zin z10.2 0 z10.1).bind fun l15=>some (⟨1,y14,l15⟩:Za)) ((Zhj 8 ([]:List Int) a0.Words).bind fun l17=>some (⟨a0.Kind,l17,z10.2⟩:Za)))
noncomputable def Xv:Nat→(Za→Option Za)
 | 0=>(fun _=>none)
 | k+1=>Zaq ((Xv k))
noncomputable def Zc7 (a0:Za):Option Za:=lim fun k=>(Xv k) a0
noncomputable def X9 (y2:Int) (s0_:(Int×Int)):Option ((Int×Int) ⊕ Int) :=
 cond (decide (s0_.2 < y2)) (some (.inl ((IntKind.u64.wrap (Int.tdiv s0_.1 2)),(IntKind.i64.wrap (s0_.2+1))))) (some (.inr s0_.1))
noncomputable def K5 (a0:Int) (a1:Int):Option Bool :=
 (Xl a0).bind fun y2=>cond (decide (y2 < 0)) (some false) ((Zw (X9 y2) (a1,0)).bind fun (z4:Int)=>some (z4 == 0))
noncomputable def Vx (Jc:(Za→Int→Option Bool)) (a0:Za) (a1:Int) (s0_:Int):Option (Int ⊕ (Unit ⊕ Unit)) :=
 cond (decide (s0_ < (a0.Kids.length:Int))) ((Y9 a0.Kids s0_).bind fun x2=>(Jc x2 (IntKind.i64.wrap (a1 - 1))).bind fun y4=>cond (!y4) (some (.inr (.inl ()))) ((cond ((cond (decide (2≤a0.Kind)) (decide (a0.Kind≤7)) false) != (x2.Kind == 10)) (some true) (cond (a0.Kind == 9) (cond (x2.Kind != 1) (some true) (cond (decide (2≤a0.Kind)) (cond (decide (a0.Kind≤7)) ((Y9 x2.Words 0).bind fun x14=>(K5 (IntKind.i64.wrap (a0.Kind - 2)) x14).bind fun y15=>some (cond (cond ((cond (decide (2≤a0.Kind)) (decide (a0.Kind≤7)) false) != (x2.Kind == 10)) true (cond (a0.Kind == 9) (x2.Kind != 1) false)) true (cond (cond (decide (2≤a0.Kind)) (decide (a0.Kind≤7)) false) (!y15) false))) (some (cond (cond ((cond (decide (2≤a0.Kind)) (decide (a0.Kind≤7)) false) != (x2.Kind == 10)) true (cond (a0.Kind == 9) (x2.Kind != 1) false)) true false))) (some (cond (cond ((cond (decide (2≤a0.Kind)) (decide (a0.Kind≤7)) false) != (x2.Kind == 10)) true (cond (a0.Kind == 9) (x2.Kind != 1) false)) true false)))) (cond (decide (2≤a0.Kind)) (cond (decide (a0.Kind≤7)) ((Y9 x2.Words 0).bind fun x16=>(K5 (IntKind.i64.wrap (a0.Kind - 2)) x16).bind fun y17=>some (cond (cond ((cond (decide (2≤a0.Kind)) (decide (a0.Kind≤7)) false) != (x2.Kind == 10)) true (cond (a0.Kind == 9) (x2.Kind != 1) false)) true (cond (cond (decide (2≤a0.Kind)) (decide (a0.Kind≤7)) false) (!y17) false))) (some (cond (cond ((cond (decide (2≤a0.Kind)) (decide (a0.Kind≤7)) false) != (x2.Kind == 10)) true (cond (a0.Kind == 9) (x2.Kind != 1) false)) true false))) (some (cond (cond ((cond (decide (2≤a0.Kind)) (decide (a0.Kind≤7)) false) != (x2.Kind == 10)) true (cond (a0.Kind == 9) (x2.Kind != 1) false)) true false))))).bind fun (z9:Bool)=>cond z9 (some (.inr (.inl ()))) (some (.inl (IntKind.i64.wrap (s0_+1)))))) (some (.inr (.inr ())))
noncomputable def Gn (Jc:(Za→Int→Option Bool)) (a0:Za) (a1:Int):Option Bool :=
 cond (a0.Kind == 0) (some (cond ((a0.Words.length:Int) == 0) ((a0.Kids.length:Int) == 0) false)) (cond (a0.Kind == 10) (some (cond ((a0.Words.length:Int) == 1) ((a0.Kids.length:Int) == 0) false)) (cond (cond (cond (cond (cond (cond (decide (a0.Kind < 0)) true (decide (10 < a0.Kind))) true (a1 == 0)) true (decide (65536≤(a0.Words.length:Int)))) true (cond (a0.Kind == 1) (decide (65536≤(a0.Kids.length:Int))) false)) true (decide (1048576≤(a0.Kids.length:Int)))) (some false) (cond (cond (decide (1 < a0.Kind)) (decide (0 < (a0.Words.length:Int))) false) (some false) ((Zw (Vx Jc a0 a1) 0).bind fun (z28:(Unit ⊕ Unit))=>match z28 with | .inl z28=>some false | .inr z28=>some true))))
noncomputable def Jo:Nat→(Za→Int→Option Bool)
 | 0=>(fun _ _=>none)
 | k+1=>Gn ((Jo k))
noncomputable def Zen (a0:Za) (a1:Int):Option Bool:=lim fun k=>(Jo k) a0 a1
noncomputable def Um (a0:Int) (a1:Int):Option Int :=
 (Xl a0).bind fun y2=>cond (cond (cond (decide (y2 < 1)) true (decide (a1 < 0))) true (decide (1099511627776 < a1))) (some 0) ((Xl a0).bind fun y5=>(Xj (y5≠0)).bind fun u6=>(Xj ((IntKind.i64.wrap (Int.tdiv 64 y5))≠0)).bind fun u8=>cond (decide (0 < (Int.tmod a1 (IntKind.i64.wrap (Int.tdiv 64 y5))))) ((Xj ((IntKind.i64.wrap (Int.tdiv 64 y5))≠0)).bind fun u10=>some (IntKind.i64.wrap ((IntKind.i64.wrap (Int.tdiv a1 (IntKind.i64.wrap (Int.tdiv 64 y5))))+1))) ((Xj ((IntKind.i64.wrap (Int.tdiv 64 y5))≠0)).bind fun u12=>some (IntKind.i64.wrap (Int.tdiv a1 (IntKind.i64.wrap (Int.tdiv 64 y5))))))
noncomputable def Vy (a0:Za) (s0_:(Int×Int×Int)):Option ((Int×Int×Int) ⊕ (Int×Int)) :=
 cond (decide (s0_.2.2 < (a0.Kids.length:Int))) ((((Y9 a0.Kids s0_.2.2).bind fun x5=>cond (decide (s0_.1 < (x5.Words.length:Int))) ((Y9 a0.Kids s0_.2.2).bind fun x7=>some (x7.Words.length:Int)) (some s0_.1)).bind fun (z2:Int)=>(Y9 a0.Kids s0_.2.2).bind fun x12=>cond (decide (s0_.2.1 < (x12.Kids.length:Int))) ((Y9 a0.Kids s0_.2.2).bind fun x14=>some (z2,(x14.Kids.length:Int))) (some (z2,s0_.2.1))).bind fun (z1:(Int×Int))=>some (.inl (z1.1,z1.2,(IntKind.i64.wrap (s0_.2.2+1))))) (some (.inr (s0_.1,s0_.2.1)))
noncomputable def V5 (a0:Za):Option (Int×Int) :=
 (Zw (Vy a0) (0,0,0)).bind fun (z18:(Int×Int))=>some (z18.1,z18.2)
noncomputable def Ug (Xc:(Za→Option Int)) (a0:Za) (s0_:(Int×Int)) (s1_:(Int×Int)):Option ((Int×Int) ⊕ Int) :=
 (Y9 a0.Kids s0_.2).bind fun x14=>cond (decide (s1_.2 < (x14.Kids.length:Int))) ((Y9 a0.Kids s0_.2).bind fun x16=>(Y9 x16.Kids s1_.2).bind fun x18=>(Xc x18).bind fun y19=>some (.inl ((IntKind.i64.wrap (s1_.1+y19)),(IntKind.i64.wrap (s1_.2+1))))) (some (.inr s1_.1))
noncomputable def Uf (Xc:(Za→Option Int)) (a0:Za) (s0_:(Int×Int)):Option ((Int×Int) ⊕ Int) :=
 cond (decide (s0_.2 < (a0.Kids.length:Int))) ((Zw (Ug Xc a0 s0_) (s0_.1,0)).bind fun (z21:Int)=>some (.inl (z21,(IntKind.i64.wrap (s0_.2+1))))) (some (.inr s0_.1))
noncomputable def Ko (Xc:(Za→Option Int)) (a0:Za) (s2_:(Int×Int)):Option ((Int×Int) ⊕ Int) :=
 cond (decide (s2_.2 < (a0.Kids.length:Int))) ((Y9 a0.Kids s2_.2).bind fun x28=>(Xc x28).bind fun y29=>some (.inl ((IntKind.i64.wrap (s2_.1+y29)),(IntKind.i64.wrap (s2_.2+1))))) (some (.inr s2_.1))
noncomputable def Zas (Xc:(Za→Option Int)) (a0:Za):Option Int :=
 (cond (a0.Kind == 1) (some (.inl (IntKind.i64.wrap ((a0.Words.length:Int)+(a0.Kids.length:Int))))) (cond (a0.Kind == 8) (some (.inl (a0.Kids.length:Int))) ((cond (a0.Kind == 2) (some (a0.Kind == 2)) (cond (a0.Kind == 3) (some (a0.Kind == 3)) (cond (a0.Kind == 4) (some (a0.Kind == 4)) (cond (a0.Kind == 5) (some (a0.Kind == 5)) (cond (a0.Kind == 6) (some (a0.Kind == 6)) (some (a0.Kind == 7))))))).bind fun (z2:Bool)=>cond z2 ((Um (IntKind.i64.wrap (a0.Kind - 2)) (a0.Kids.length:Int)).bind fun y9=>some (.inr y9)) (cond (a0.Kind == 9) ((V5 a0).bind fun y11=>(Zw (Uf Xc a0) ((IntKind.i64.wrap (1+(IntKind.i64.wrap ((a0.Kids.length:Int) * (IntKind.i64.wrap (y11.1+y11.2)))))),0)).bind fun (z23:Int)=>some (.inr z23)) (some (.inl 0)))))).bind fun (z1:(Int ⊕ Int))=>match z1 with | .inl z1=>(Zw (Ko Xc a0) (z1,0)).bind fun (z31:Int)=>some z31 | .inr z1=>some z1
noncomputable def Xk:Nat→(Za→Option Int)
 | 0=>(fun _=>none)
 | k+1=>Zas ((Xk k))
noncomputable def Zc8 (a0:Za):Option Int:=lim fun k=>(Xk k) a0
noncomputable def Qa (a0:Int) (a1:Int) (a2:Int) (a3:Int):Option Int :=
 (cond (decide ((IntKind.i64.wrap ((IntKind.i64.wrap (a1 - a0)) - 1)) < 0)) (some (IntKind.i64.wrap ((IntKind.i64.wrap ((IntKind.i64.wrap (a1 - a0)) - 1))+1073741824))) (some (IntKind.i64.wrap ((IntKind.i64.wrap (a1 - a0)) - 1)))).bind fun (z1:Int)=>some (IntKind.u64.wrap ((IntKind.u64.wrap (IntKind.i64.wrap ((IntKind.i64.wrap (4 * z1))+a2)))+(IntKind.u64.wrap (a3 * 4294967296))))
noncomputable def U5 (a1:Int) (s0_:(Int×(List Int))):Option ((Int×(List Int)) ⊕ (List Int)) :=
 cond (decide (s0_.1 < a1)) ((Zhj 8 s0_.2 ([0]:List Int)).bind fun l1=>some (.inl ((IntKind.i64.wrap (s0_.1+1)),l1))) (some (.inr s0_.2))
noncomputable def V6 (a0:(List Int)) (a1:Int):Option (List Int) :=
 (Zw (U5 a1) (0,a0)).bind fun (z3:(List Int))=>some z3
noncomputable def Vz (a0:Za) (s0_:(Int×(List Int))):Option ((Int×(List Int)) ⊕ (List Int)) :=
 cond (decide (s0_.1 < (a0.Kids.length:Int))) ((Y9 a0.Kids s0_.1).bind fun x1=>(Y9 x1.Words 0).bind fun x3=>(Zhj 8 s0_.2 ([x3]:List Int)).bind fun l4=>some (.inl ((IntKind.i64.wrap (s0_.1+1)),l4))) (some (.inr s0_.2))
noncomputable def Gx (a0:Za):Option (List Int) :=
 (Zw (Vz a0) (0,([]:List Int))).bind fun (z6:(List Int))=>some z6
noncomputable def Zbc (y2:Int) (s0_:(Int×(List Int))) (s1_:(Int×Int)):Option ((Int×Int) ⊕ Int) :=
 cond (decide (s1_.2 < (Int.tmod (IntKind.i64.wrap (s0_.1 * y2)) 64))) (some (.inl ((IntKind.u64.wrap (s1_.1 * 2)),(IntKind.i64.wrap (s1_.2+1))))) (some (.inr s1_.1))
noncomputable def Xe (a0:Int) (a1:(List Int)) (y2:Int) (s0_:(Int×(List Int))):Option ((Int×(List Int)) ⊕ (Unit ⊕ (List Int))) :=
 cond (decide (s0_.1 < (a1.length:Int))) (((Y9 a1 s0_.1).bind fun x9=>(K5 a0 x9).bind fun y11=>cond (!y11) (some (.inr ())) ((Zw (Zbc y2 s0_) (x9,0)).bind fun (z13:Int)=>cond (decide (0 < y2)) ((Y9 s0_.2 (IntKind.i64.wrap (Int.tdiv (IntKind.i64.wrap (s0_.1 * y2)) 64))).bind fun x14=>some (.inl (Kc s0_.2 (IntKind.i64.wrap (Int.tdiv (IntKind.i64.wrap (s0_.1 * y2)) 64)) (IntKind.u64.wrap (x14+z13))))) (some (.inl s0_.2)))).bind fun (z7:((List Int) ⊕ Unit))=>match z7 with | .inl z7=>some (.inl ((IntKind.i64.wrap (s0_.1+1)),z7)) | .inr z7=>some (.inr (.inl ()))) (some (.inr (.inr s0_.2)))
noncomputable def Zbo (a0:Int) (a1:(List Int)):Option ((List Int)×Bool) :=
 (Xl a0).bind fun y2=>cond (decide (y2 < 0)) (some (([]:(List Int)),false)) ((Um a0 (a1.length:Int)).bind fun y5=>(Zic 8 y5 (0:Int)).bind fun l6=>(Zw (Xe a0 a1 y2) (0,l6)).bind fun (z20:(Unit ⊕ (List Int)))=>match z20 with | .inl z20=>some (([]:(List Int)),false) | .inr z20=>some (z20,true))
noncomputable def Uy (Y1:((List Int)→Int→Za→Option (List Int))) (a2:Za) (z1:Int) (s0_:(Int×(List Int))):Option ((Int×(List Int)) ⊕ (List Int)) :=
 cond (decide (s0_.1 < (a2.Kids.length:Int))) ((Y9 a2.Kids s0_.1).bind fun x13=>(Y1 s0_.2 (IntKind.i64.wrap ((IntKind.i64.wrap (z1+(a2.Words.length:Int)))+s0_.1)) x13).bind fun y14=>some (.inl ((IntKind.i64.wrap (s0_.1+1)),y14))) (some (.inr s0_.2))
noncomputable def Uz (Y1:((List Int)→Int→Za→Option (List Int))) (a0:(List Int)) (a2:Za) (s1_:(Int×(List Int))):Option ((Int×(List Int)) ⊕ (List Int)) :=
 cond (decide (s1_.1 < (a2.Kids.length:Int))) ((Y9 a2.Kids s1_.1).bind fun x25=>(Y1 s1_.2 (IntKind.i64.wrap ((a0.length:Int)+s1_.1)) x25).bind fun y26=>some (.inl ((IntKind.i64.wrap (s1_.1+1)),y26))) (some (.inr s1_.2))
noncomputable def U0 (a2:Za) (y30:(Int×Int)) (s2_:(Int×(List Int))):Option ((Int×(List Int)) ⊕ (List Int)) :=
 cond (decide (s2_.1 < (a2.Kids.length:Int))) ((Y9 a2.Kids s2_.1).bind fun x42=>(Zhj 8 s2_.2 x42.Words).bind fun l44=>(Y9 a2.Kids s2_.1).bind fun x45=>(V6 l44 (IntKind.i64.wrap ((IntKind.i64.wrap (y30.1+y30.2)) - (x45.Words.length:Int)))).bind fun y47=>some (.inl ((IntKind.i64.wrap (s2_.1+1)),y47))) (some (.inr s2_.2))
noncomputable def U2 (Y1:((List Int)→Int→Za→Option (List Int))) (a0:(List Int)) (a2:Za) (y30:(Int×Int)) (s3_:(Int×(List Int))) (s4_:(Int×(List Int))):Option ((Int×(List Int)) ⊕ (List Int)) :=
 (Y9 a2.Kids s3_.1).bind fun x52=>cond (decide (s4_.1 < (x52.Kids.length:Int))) ((Y9 a2.Kids s3_.1).bind fun x54=>(Y9 x54.Kids s4_.1).bind fun x56=>(Y1 s4_.2 (IntKind.i64.wrap ((IntKind.i64.wrap ((IntKind.i64.wrap ((IntKind.i64.wrap ((a0.length:Int)+1))+(IntKind.i64.wrap (s3_.1 * (IntKind.i64.wrap (y30.1+y30.2))))))+y30.1))+s4_.1)) x56).bind fun y57=>some (.inl ((IntKind.i64.wrap (s4_.1+1)),y57))) (some (.inr s4_.2))
noncomputable def U1 (Y1:((List Int)→Int→Za→Option (List Int))) (a0:(List Int)) (a2:Za) (y30:(Int×Int)) (s3_:(Int×(List Int))):Option ((Int×(List Int)) ⊕ (List Int)) :=
 cond (decide (s3_.1 < (a2.Kids.length:Int))) ((Zw (U2 Y1 a0 a2 y30 s3_) (0,s3_.2)).bind fun (z59:(List Int))=>some (.inl ((IntKind.i64.wrap (s3_.1+1)),z59))) (some (.inr s3_.2))
noncomputable def Xq (Y1:((List Int)→Int→Za→Option (List Int))) (a0:(List Int)) (a1:Int) (a2:Za):Option (List Int) :=
 cond (a2.Kind == 0) (some a0) (cond (a2.Kind == 1) ((cond ((IntKind.i64.wrap ((a2.Words.length:Int)+(a2.Kids.length:Int))) == 0) (some a1) (some (a0.length:Int))).bind fun (z1:Int)=>(Qa a1 z1 0 (IntKind.u64.wrap ((IntKind.u64.wrap (a2.Words.length:Int))+(IntKind.u64.wrap (65536 * (IntKind.u64.wrap (a2.Kids.length:Int))))))).bind fun y6=>(Y9 a0 a1).bind fun x7=>(Zhj 8 (Kc a0 a1 y6) a2.Words).bind fun l10=>(V6 l10 (a2.Kids.length:Int)).bind fun y12=>(Zw (Uy Y1 a2 z1) (0,y12)).bind fun (z16:(List Int))=>some z16) (cond (a2.Kind == 8) ((Qa a1 (a0.length:Int) 1 (IntKind.u64.wrap (6+(IntKind.u64.wrap (8 * (IntKind.u64.wrap (a2.Kids.length:Int))))))).bind fun y20=>(Y9 a0 a1).bind fun x21=>(V6 (Kc a0 a1 y20) (a2.Kids.length:Int)).bind fun y24=>(Zw (Uz Y1 a0 a2) (0,y24)).bind fun (z28:(List Int))=>some z28) (cond (a2.Kind == 9) ((V5 a2).bind fun y30=>(Qa a1 (a0.length:Int) 1 (IntKind.u64.wrap (7+(IntKind.u64.wrap (8 * (IntKind.u64.wrap (IntKind.i64.wrap ((a2.Kids.length:Int) * (IntKind.i64.wrap (y30.1+y30.2)))))))))).bind fun y34=>(Y9 a0 a1).bind fun x35=>(Zhj 8 (Kc a0 a1 y34) ([(IntKind.u64.wrap ((IntKind.u64.wrap (IntKind.i64.wrap (4 * (a2.Kids.length:Int))))+(IntKind.u64.wrap (4294967296 * (IntKind.u64.wrap ((IntKind.u64.wrap y30.1)+(IntKind.u64.wrap (65536 * (IntKind.u64.wrap y30.2)))))))))]:List Int)).bind fun l38=>(Zw (U0 a2 y30) (0,l38)).bind fun (z49:(List Int))=>(Zw (U1 Y1 a0 a2 y30) (0,z49)).bind fun (z61:(List Int))=>some z61) ((Gx a2).bind fun y64=>(Zbo (IntKind.i64.wrap (a2.Kind - 2)) y64).bind fun y65=>(Qa a1 (a0.length:Int) 1 (IntKind.u64.wrap ((IntKind.u64.wrap (IntKind.i64.wrap (a2.Kind - 2)))+(IntKind.u64.wrap (8 * (IntKind.u64.wrap (a2.Kids.length:Int))))))).bind fun y69=>(Y9 a0 a1).bind fun x70=>(Zhj 8 (Kc a0 a1 y69) y65.1).bind fun l73=>some l73))))
noncomputable def Yu:Nat→((List Int)→Int→Za→Option (List Int))
 | 0=>(fun _ _ _=>none)
 | k+1=>Xq ((Yu k))
noncomputable def Zgt (a0:(List Int)) (a1:Int) (a2:Za):Option (List Int):=lim fun k=>(Yu k) a0 a1 a2
noncomputable def U4 (a0:Za) (a1:Int):Option ((List Int)×Bool) :=
 (Zen a0 64).bind fun y2=>cond (cond (!y2) true (a0.Kind == 10)) (some (([]:(List Int)),false)) ((Zc7 a0).bind fun y4=>((Zc8 y4).bind fun y10=>cond (decide (a1≤y10)) (some true) ((Zc8 y4).bind fun y11=>some (cond (decide (a1≤y10)) true (decide (131072≤y11))))).bind fun (z7:Bool)=>cond z7 (some (([]:(List Int)),false)) ((Zgt ([0]:List Int) 0 y4).bind fun y14=>some (y14,true)))
noncomputable def Vu (a0:(List Int)) (a1:Z0):Option Bool :=
 (Gv a1).bind fun y2=>(Zfs a0 y2).bind fun y4=>(Vj ([a0]:List (List Int)) y2).bind fun y6=>cond (y6.2.2 != 0) ((cond (y4.2 == y6.2.2) ((K6 y4.1 (⟨0,[],[]⟩:Za)).bind fun y12=>cond y12 ((Kk).bind fun y13=>some (cond (cond (y4.2 == y6.2.2) y12 false) y13 false)) (some false)) (some false)).bind fun (z9:Bool)=>some z9) ((Zc7 y6.1).bind fun y17=>(U4 y17 131072).bind fun y19=>(Qv a0 y19.1).bind fun y21=>cond (!y21) ((cond (y4.2 == 5) ((K6 y4.1 (⟨0,[],[]⟩:Za)).bind fun y27=>cond y27 ((Kk).bind fun y28=>some (cond (cond (y4.2 == 5) y27 false) y28 false)) (some false)) (some false)).bind fun (z24:Bool)=>some z24) ((cond (y4.2 == 0) ((K6 y4.1 y17).bind fun y36=>cond y36 ((Kk).bind fun y37=>some (cond (cond (y4.2 == 0) y36 false) y37 false)) (some false)) (some false)).bind fun (z33:Bool)=>some z33))
end Go.Proofs.YtpfbdlcnfekdkaaGreat
