/- Part WD of this seat's mirrors: functions of the seat's program, and the plain functions that they are; each theorem bears its own conditions. -/
import Derived.Test.YtnapihlnlajlpaaH26
namespace Go.Proofs.Ytnapihlnlajlpaa
open Go.RowKit
set_option linter.unusedVariables false
set_option linter.unusedSimpArgs false
set_option maxRecDepth 100000
set_option maxHeartbeats 4000000
structure Zb where
 Kind:Int
 Words:(List Int)
 Kids:(List Zb)
noncomputable def Znl (a0:Int):Option Bool :=
 some (cond (decide (2≤a0)) (decide (a0≤9)) false)
noncomputable def Zah (a0:(List Zb)) (s0_:Int):Option (Int ⊕ (Unit ⊕ Unit)) :=
 cond (decide (s0_ < (a0.length:Int))) ((Y2 a0 s0_).bind fun x2=>cond (x2.Kind != 1) (some (.inr (.inl ()))) (some (.inl (IntKind.i64.wrap (s0_+1))))) (some (.inr (.inr ())))
noncomputable def Ze9 (a0:(List Zb)):Option Bool :=
 (Zw (Zah a0) 0).bind fun (z5:(Unit ⊕ Unit))=>match z5 with | .inl z5=>some false | .inr z5=>some true
noncomputable def Q3 (a0:Int):Option (Int×Bool) :=
 ((some (⟨[0,1,8,16,32,64],rfl⟩:(Arr Int 6)))).bind fun y6=>((some (⟨[0,0,0,0,0,0],rfl⟩:(Arr Int 6)))).bind fun y8=>cond (cond (decide (a0 < 0)) true (decide (6≤a0))) (some (0,false)) ((Y2 y6.1 a0).bind fun x12=>some (x12,true))
noncomputable def Zej (a0:Int) (a1:Int):Option Bool :=
 (Q3 a0).bind fun y2=>(cond y2.2 ((Xe (0≤y2.1)).bind fun u6=>some (cond y2.2 ((Int.fdiv a1 (2 ^ min (Int.toNat y2.1) 64)) == 0) false)) (some false)).bind fun (z4:Bool)=>some z4
noncomputable def Zl3 (Zdf:(Zb→Option Bool)) (Zb1:(Zb→Int→Option Bool)) (Gy:((List Zb)→Int→Option Bool)) (Zdw:((List Zb)→Int→Option Bool)) (a0:Zb):Option Bool :=
 cond (a0.Kind == 10) (some (cond ((a0.Words.length:Int) == 1) ((a0.Kids.length:Int) == 0) false)) ((Zb1 a0 64).bind fun y2=>some y2)
noncomputable def Zl4 (Zdf:(Zb→Option Bool)) (Zb1:(Zb→Int→Option Bool)) (Gy:((List Zb)→Int→Option Bool)) (Zdw:((List Zb)→Int→Option Bool)) (a0:Zb) (a1:Int):Option Bool :=
 cond (a0.Kind == 0) (some (cond ((a0.Words.length:Int) == 0) ((a0.Kids.length:Int) == 0) false)) (cond (a1 == 0) (some false) (cond (a0.Kind == 1) ((cond (decide ((a0.Words.length:Int) < 65536)) (cond (decide ((a0.Kids.length:Int) < 65536)) ((Gy a0.Kids (IntKind.i64.wrap (a1 - 1))).bind fun y4=>some (cond (cond (decide ((a0.Words.length:Int) < 65536)) (decide ((a0.Kids.length:Int) < 65536)) false) y4 false)) (some false)) (some false)).bind fun (z2:Bool)=>some z2) ((Znl a0.Kind).bind fun y8=>cond (cond (cond (!y8) true (decide (0 < (a0.Words.length:Int)))) true (decide (1048576≤(a0.Kids.length:Int)))) (some false) (cond (a0.Kind == 8) ((Gy a0.Kids (IntKind.i64.wrap (a1 - 1))).bind fun y10=>some y10) (cond (a0.Kind == 9) (((Ze9 a0.Kids).bind fun y16=>cond y16 ((Gy a0.Kids (IntKind.i64.wrap (a1 - 1))).bind fun y17=>some (cond y16 y17 false)) (some false)).bind fun (z13:Bool)=>some z13) ((Zdw a0.Kids (IntKind.i64.wrap (a0.Kind - 2))).bind fun y20=>some y20))))))
noncomputable def Zbp (Zb1:(Zb→Int→Option Bool)) (a0:(List Zb)) (a1:Int) (s0_:Int):Option (Int ⊕ (Unit ⊕ Unit)) :=
 cond (decide (s0_ < (a0.length:Int))) ((Y2 a0 s0_).bind fun x2=>(Zb1 x2 a1).bind fun y4=>cond (!y4) (some (.inr (.inl ()))) (some (.inl (IntKind.i64.wrap (s0_+1))))) (some (.inr (.inr ())))
noncomputable def Zhf (Zdf:(Zb→Option Bool)) (Zb1:(Zb→Int→Option Bool)) (Gy:((List Zb)→Int→Option Bool)) (Zdw:((List Zb)→Int→Option Bool)) (a0:(List Zb)) (a1:Int):Option Bool :=
 (Zw (Zbp Zb1 a0 a1) 0).bind fun (z7:(Unit ⊕ Unit))=>match z7 with | .inl z7=>some false | .inr z7=>some true
noncomputable def Zbo (Zdf:(Zb→Option Bool)) (a0:(List Zb)) (a1:Int) (s0_:Int):Option (Int ⊕ (Unit ⊕ Unit)) :=
 cond (decide (s0_ < (a0.length:Int))) ((Y2 a0 s0_).bind fun x2=>(cond (x2.Kind != 10) (some true) ((Zdf x2).bind fun y10=>cond y10 ((Y2 x2.Words 0).bind fun x11=>(Zej a1 x11).bind fun y12=>some (cond (cond (x2.Kind != 10) true (!y10)) true (!y12))) (some true))).bind fun (z6:Bool)=>cond z6 (some (.inr (.inl ()))) (some (.inl (IntKind.i64.wrap (s0_+1))))) (some (.inr (.inr ())))
noncomputable def Zhe (Zdf:(Zb→Option Bool)) (Zb1:(Zb→Int→Option Bool)) (Gy:((List Zb)→Int→Option Bool)) (Zdw:((List Zb)→Int→Option Bool)) (a0:(List Zb)) (a1:Int):Option Bool :=
 (Zw (Zbo Zdf a0 a1) 0).bind fun (z17:(Unit ⊕ Unit))=>match z17 with | .inl z17=>some false | .inr z17=>some true
noncomputable def Zy:Nat→((Zb→Option Bool)×(Zb→Int→Option Bool)×((List Zb)→Int→Option Bool)×((List Zb)→Int→Option Bool))
 | 0=>((fun _=>none),(fun _ _=>none),(fun _ _=>none),(fun _ _=>none))
 | k+1=>(Zl3 ((Zy k).1) ((Zy k).2.1) ((Zy k).2.2.1) ((Zy k).2.2.2),Zl4 ((Zy k).1) ((Zy k).2.1) ((Zy k).2.2.1) ((Zy k).2.2.2),Zhf ((Zy k).1) ((Zy k).2.1) ((Zy k).2.2.1) ((Zy k).2.2.2),Zhe ((Zy k).1) ((Zy k).2.1) ((Zy k).2.2.1) ((Zy k).2.2.2))
noncomputable def Zsm (a0:Zb):Option Bool:=lim fun k=>(Zy k).1 a0
noncomputable def Zaz (a0:(List Int)) (s0_:Int):Option (Int ⊕ Int) :=
 (cond (decide (0 < s0_)) ((Y2 a0 (IntKind.i64.wrap (s0_ - 1))).bind fun x4=>some (cond (decide (0 < s0_)) (x4 == 0) false)) (some false)).bind fun (z2:Bool)=>cond z2 (some (.inl (IntKind.i64.wrap (s0_ - 1)))) (some (.inr s0_))
noncomputable def Zf8 (a0:(List Int)):Option (List Int) :=
 (Zw (Zaz a0) (a0.length:Int)).bind fun (z7:Int)=>(Zjg a0 0 z7).bind fun l9=>some l9
noncomputable def Zbx (a0:(List Zb)) (s0_:Int):Option (Int ⊕ Int) :=
 (cond (decide (0 < s0_)) ((Y2 a0 (IntKind.i64.wrap (s0_ - 1))).bind fun x6=>some (cond (decide (0 < s0_)) (x6.Kind == 0) false)) (some false)).bind fun (z3:Bool)=>cond z3 (some (.inl (IntKind.i64.wrap (s0_ - 1)))) (some (.inr s0_))
noncomputable def Zhh (a0:(List Zb)):Option (List Zb) :=
 (Zw (Zbx a0) (a0.length:Int)).bind fun (z10:Int)=>(Zjg a0 0 z10).bind fun l12=>some l12
noncomputable def Zcv (Zn6:(Zb→Option Zb)) (z1:((List Int)×(List Zb))) (s0_:(Int×(List Zb))):Option ((Int×(List Zb)) ⊕ (List Zb)) :=
 cond (decide (s0_.1 < (z1.2.length:Int))) ((Y2 z1.2 s0_.1).bind fun x9=>(Zn6 x9).bind fun y10=>(Y2 s0_.2 s0_.1).bind fun x11=>some (.inl ((IntKind.i64.wrap (s0_.1+1)),(Xu s0_.2 s0_.1 y10)))) (some (.inr s0_.2))
noncomputable def Zm8 (Zn6:(Zb→Option Zb)) (a0:Zb):Option Zb :=
 cond (a0.Kind == 0) (some (⟨0,[],[]⟩:Zb)) ((cond (a0.Kind == 1) ((Zf8 a0.Words).bind fun y2=>(Zhh a0.Kids).bind fun y3=>some (y2,y3)) (some (a0.Words,a0.Kids))).bind fun (z1:((List Int)×(List Zb)))=>(cond (decide (0 < (z1.2.length:Int))) ((Zfn 56 (z1.2.length:Int) (⟨(0:Int),[],[]⟩:Zb)).bind fun l6=>some l6) (some ([]:List Zb))).bind fun (z5:(List Zb))=>(Zw (Zcv Zn6 z1) (0,z5)).bind fun (z14:(List Zb))=>some (⟨a0.Kind,z1.1,z14⟩:Zb))
noncomputable def Zae:Nat→(Zb→Option Zb)
 | 0=>(fun _=>none)
 | k+1=>Zm8 ((Zae k))
noncomputable def Znm (a0:Zb):Option Zb:=lim fun k=>(Zae k) a0
noncomputable def Zu1 (a0:Int):Option Bool :=
 some (cond (decide (2≤a0)) (decide (a0≤7)) false)
noncomputable def Zc7 (a0:Int) (a1:Int):Option Int :=
 (Q3 a0).bind fun y2=>cond (cond (cond (!y2.2) true (decide (a1 < 0))) true (decide (1099511627776 < a1))) (some 0) (some (IntKind.i64.wrap (Int.tdiv (IntKind.i64.wrap ((IntKind.i64.wrap (a1 * y2.1))+63)) 64)))
noncomputable def Zdv (a0:Zb) (s0_:(Int×Int×Int)):Option ((Int×Int×Int) ⊕ (Int×Int)) :=
 cond (decide (s0_.2.2 < (a0.Kids.length:Int))) ((Y2 a0.Kids s0_.2.2).bind fun x2=>some (.inl ((if s0_.1 < (x2.Words.length:Int) then (x2.Words.length:Int) else s0_.1),(if s0_.2.1 < (x2.Kids.length:Int) then (x2.Kids.length:Int) else s0_.2.1),(IntKind.i64.wrap (s0_.2.2+1))))) (some (.inr (s0_.1,s0_.2.1)))
noncomputable def Ze8 (a0:Zb):Option (Int×Int) :=
 (Zw (Zdv a0) (0,0,0)).bind fun (z4:(Int×Int))=>some (z4.1,z4.2)
noncomputable def Zcw (Zdg:((List Zb)→Option Int)) (a0:Zb) (s0_:(Int×Int)):Option ((Int×Int) ⊕ Int) :=
 cond (decide (s0_.2 < (a0.Kids.length:Int))) ((Y2 a0.Kids s0_.2).bind fun x12=>(Zdg x12.Kids).bind fun y13=>some (.inl ((IntKind.i64.wrap (s0_.1+y13)),(IntKind.i64.wrap (s0_.2+1))))) (some (.inr s0_.1))
noncomputable def Zm9 (Zjn:(Zb→Option Int)) (Zdg:((List Zb)→Option Int)) (a0:Zb):Option Int :=
 cond (a0.Kind == 1) ((Zdg a0.Kids).bind fun y2=>some (IntKind.i64.wrap ((IntKind.i64.wrap ((a0.Words.length:Int)+(a0.Kids.length:Int)))+y2))) ((Zu1 a0.Kind).bind fun y4=>cond y4 ((Zc7 (IntKind.i64.wrap (a0.Kind - 2)) (a0.Kids.length:Int)).bind fun y6=>some y6) (cond (a0.Kind == 8) ((Zdg a0.Kids).bind fun y8=>some (IntKind.i64.wrap ((a0.Kids.length:Int)+y8))) (cond (a0.Kind == 9) ((Ze8 a0).bind fun y10=>(Zw (Zcw Zdg a0) ((IntKind.i64.wrap (1+(IntKind.i64.wrap ((a0.Kids.length:Int) * (IntKind.i64.wrap (y10.1+y10.2)))))),0)).bind fun (z15:Int)=>some z15) (some 0))))
noncomputable def Zb2 (Zjn:(Zb→Option Int)) (a0:(List Zb)) (s0_:(Int×Int)):Option ((Int×Int) ⊕ Int) :=
 cond (decide (s0_.2 < (a0.length:Int))) ((Y2 a0 s0_.2).bind fun x2=>(Zjn x2).bind fun y3=>some (.inl ((IntKind.i64.wrap (s0_.1+y3)),(IntKind.i64.wrap (s0_.2+1))))) (some (.inr s0_.1))
noncomputable def Zl5 (Zjn:(Zb→Option Int)) (Zdg:((List Zb)→Option Int)) (a0:(List Zb)):Option Int :=
 (Zw (Zb2 Zjn a0) (0,0)).bind fun (z5:Int)=>some z5
noncomputable def Xq:Nat→((Zb→Option Int)×((List Zb)→Option Int))
 | 0=>((fun _=>none),(fun _=>none))
 | k+1=>(Zm9 ((Xq k).1) ((Xq k).2),Zl5 ((Xq k).1) ((Xq k).2))
noncomputable def Zu2 (a0:Zb):Option Int:=lim fun k=>(Xq k).1 a0
noncomputable def Znn (a0:Zb):Option Int :=
 (Znm a0).bind fun y3=>(Zu2 y3).bind fun y4=>some y4
structure Zs where
 Kind:Int
 Off:Int
 Data:Int
 Ptrs:Int
 Code:Int
 Count:Int
 Segment:Int
 Double:Bool
noncomputable def Zar (a0:Zb):Option Zs :=
 cond (a0.Kind == 1) (some (⟨1,0,(a0.Words.length:Int),(a0.Kids.length:Int),0,0,0,false⟩:Zs)) (cond (a0.Kind == 9) ((Ze8 a0).bind fun y2=>some (⟨2,0,0,0,7,(IntKind.i64.wrap ((a0.Kids.length:Int) * (IntKind.i64.wrap (y2.1+y2.2)))),0,false⟩:Zs)) (some (⟨2,0,0,0,(IntKind.i64.wrap (a0.Kind - 2)),(a0.Kids.length:Int),0,false⟩:Zs)))
noncomputable def Zei (a0:Int):Option Int :=
 ((some (⟨[0,1,8,16,32,64,64],rfl⟩:(Arr Int 7)))).bind fun y6=>((some (⟨[0,0,0,0,0,0,0],rfl⟩:(Arr Int 7)))).bind fun y8=>(Y2 y6.1 a0).bind fun x12=>some x12
noncomputable def Yt (a0:Zs):Option (Int×Bool) :=
 cond (a0.Kind == 1) (some ((IntKind.i64.wrap (a0.Data+a0.Ptrs)),true)) (cond (cond (a0.Kind == 2) (a0.Code == 7) false) (some ((IntKind.i64.wrap (a0.Count+1)),true)) (cond (cond (cond (cond (cond (a0.Kind == 2) (decide (0≤a0.Code)) false) (decide (a0.Code < 7)) false) (decide (0≤a0.Count)) false) (decide (a0.Count≤536870911)) false) ((Zei a0.Code).bind fun y2=>some ((IntKind.i64.wrap (Int.tdiv (IntKind.i64.wrap ((IntKind.i64.wrap (a0.Count * y2))+63)) 64)),true)) (some (0,false))))
noncomputable def Zkt (a0:Zs):Option Int :=
 cond (a0.Kind == 1) (some (IntKind.u64.wrap (Zcq .u64 (IntKind.u64.wrap (Zcq .u64 (IntKind.u64.wrap (IntKind.u32.wrap ((IntKind.u32.wrap a0.Off) * 2 ^ min (Int.toNat 2) 32))) (IntKind.u64.wrap ((IntKind.u64.wrap a0.Data) * 2 ^ min (Int.toNat 32) 64)))) (IntKind.u64.wrap ((IntKind.u64.wrap a0.Ptrs) * 2 ^ min (Int.toNat 48) 64))))) (cond (a0.Kind == 2) (some (IntKind.u64.wrap (Zcq .u64 (IntKind.u64.wrap (Zcq .u64 (IntKind.u64.wrap (Zcq .u64 1 (IntKind.u64.wrap (IntKind.u32.wrap ((IntKind.u32.wrap a0.Off) * 2 ^ min (Int.toNat 2) 32))))) (IntKind.u64.wrap ((IntKind.u64.wrap a0.Code) * 2 ^ min (Int.toNat 32) 64)))) (IntKind.u64.wrap ((IntKind.u64.wrap a0.Count) * 2 ^ min (Int.toNat 35) 64))))) (cond (a0.Kind == 3) ((cond a0.Double (some (IntKind.u64.wrap (Zcq .u64 (IntKind.u64.wrap (Zcq .u64 (IntKind.u64.wrap (Zcq .u64 2 (IntKind.u64.wrap ((IntKind.u64.wrap a0.Off) * 2 ^ min (Int.toNat 3) 64)))) (IntKind.u64.wrap ((IntKind.u64.wrap a0.Segment) * 2 ^ min (Int.toNat 32) 64)))) 4))) (some (IntKind.u64.wrap (Zcq .u64 (IntKind.u64.wrap (Zcq .u64 2 (IntKind.u64.wrap ((IntKind.u64.wrap a0.Off) * 2 ^ min (Int.toNat 3) 64)))) (IntKind.u64.wrap ((IntKind.u64.wrap a0.Segment) * 2 ^ min (Int.toNat 32) 64)))))).bind fun (z1:Int)=>some z1) (some 0)))
noncomputable def Ze7 (a0:Int):Option Int :=
 some (IntKind.i64.wrap (Int.fdiv (IntKind.i32.wrap (IntKind.u32.wrap a0)) (2 ^ min (Int.toNat 2) 32)))
noncomputable def Ql (a0:Int) (a1:Int) (a2:Int):Option Int :=
 (Xe (0≤a1)).bind fun u3=>(Xe (0≤a2)).bind fun u4=>some (IntKind.i64.wrap (IntKind.u64.wrap (Zc1 .u64 (Int.fdiv a0 (2 ^ min (Int.toNat a1) 64)) (IntKind.u64.wrap ((IntKind.u64.wrap (1 * 2 ^ min (Int.toNat a2) 64)) - 1)))))
noncomputable def Kb (a0:Int):Option Zs :=
 cond (a0 == 0) (some (⟨0,0,0,0,0,0,0,false⟩:Zs)) (cond ((IntKind.u64.wrap (Zc1 .u64 a0 3)) == 0) ((Ze7 a0).bind fun y4=>(Ql a0 32 16).bind fun y5=>(Ql a0 48 16).bind fun y6=>some (⟨1,y4,y5,y6,0,0,0,false⟩:Zs)) (cond ((IntKind.u64.wrap (Zc1 .u64 a0 3)) == 1) ((Ze7 a0).bind fun y10=>(Ql a0 32 3).bind fun y11=>(Ql a0 35 29).bind fun y12=>some (⟨2,y10,0,0,y11,y12,0,false⟩:Zs)) (cond ((IntKind.u64.wrap (Zc1 .u64 a0 3)) == 2) ((Ql a0 3 29).bind fun y15=>(Ql a0 32 32).bind fun y16=>some (⟨3,y15,0,0,0,0,y16,((IntKind.u64.wrap (Zc1 .u64 (Int.fdiv a0 (2 ^ min (Int.toNat 2) 64)) 1)) == 1)⟩:Zs)) (some (⟨4,0,0,0,0,0,0,false⟩:Zs)))))
noncomputable def Qd (a0:Zs):Option (Int×Bool) :=
 (Zkt a0).bind fun y2=>(cond (a0.Kind != 4) ((Kb y2).bind fun y6=>some (cond (a0.Kind != 4) ((y6.Kind == a0.Kind) && ((y6.Off == a0.Off) && ((y6.Data == a0.Data) && ((y6.Ptrs == a0.Ptrs) && ((y6.Code == a0.Code) && ((y6.Count == a0.Count) && ((y6.Segment == a0.Segment) && (y6.Double == a0.Double)))))))) false)) (some false)).bind fun (z4:Bool)=>some (y2,z4)
noncomputable def Zno (a0:Zb) (a1:Int):Option Int :=
 cond (cond (decide (a1 < 0)) true (decide ((a0.Words.length:Int)≤a1))) (some 0) ((Y2 a0.Words a1).bind fun x2=>some x2)
noncomputable def Zcd (a0:Int) (a1:(List Int)) (s0_:(Bool×Int)):Option ((Bool×Int) ⊕ Bool) :=
 cond (decide (s0_.2 < (a1.length:Int))) ((Y2 a1 s0_.2).bind fun x4=>cond s0_.1 ((Zej a0 x4).bind fun y5=>some (.inl ((cond s0_.1 y5 false),(IntKind.i64.wrap (s0_.2+1))))) (some (.inl (false,(IntKind.i64.wrap (s0_.2+1)))))) (some (.inr s0_.1))
noncomputable def Zat (a1:(List Int)) (y2:(Int×Bool)) (s1_:(Int×(List Int))):Option ((Int×(List Int)) ⊕ (List Int)) :=
 cond (decide (s1_.1 < (a1.length:Int))) ((Y2 a1 s1_.1).bind fun x16=>(Xe ((IntKind.i64.wrap (Int.tdiv 64 y2.1))≠0)).bind fun u17=>(Y2 s1_.2 (IntKind.i64.wrap (Int.tdiv s1_.1 (IntKind.i64.wrap (Int.tdiv 64 y2.1))))).bind fun x18=>(Xe ((IntKind.i64.wrap (Int.tdiv 64 y2.1))≠0)).bind fun u19=>(Xe (0≤(IntKind.i64.wrap ((Int.tmod s1_.1 (IntKind.i64.wrap (Int.tdiv 64 y2.1))) * y2.1)))).bind fun u20=>some (.inl ((IntKind.i64.wrap (s1_.1+1)),(Xu s1_.2 (IntKind.i64.wrap (Int.tdiv s1_.1 (IntKind.i64.wrap (Int.tdiv 64 y2.1)))) (IntKind.u64.wrap (Zcq .u64 x18 (IntKind.u64.wrap (x16 * 2 ^ min (Int.toNat (IntKind.i64.wrap ((Int.tmod s1_.1 (IntKind.i64.wrap (Int.tdiv 64 y2.1))) * y2.1))) 64)))))))) (some (.inr s1_.2))
noncomputable def Zd2 (a0:Int) (a1:(List Int)):Option ((List Int)×Bool) :=
 (Q3 a0).bind fun y2=>(Zw (Zcd a0 a1) (y2.2,0)).bind fun (z8:Bool)=>cond (!z8) (some (([]:(List Int)),false)) ((Zc7 a0 (a1.length:Int)).bind fun y11=>(Zfn 8 y11 (0:Int)).bind fun l12=>cond (y2.1 == 0) (some (l12,true)) ((Xe (y2.1≠0)).bind fun u14=>(Zw (Zat a1 y2) (0,l12)).bind fun (z24:(List Int))=>some (z24,true)))
noncomputable def Zbs (a0:Zb) (s0_:(Int×(List Int))):Option ((Int×(List Int)) ⊕ (List Int)) :=
 cond (decide (s0_.1 < (a0.Kids.length:Int))) ((Y2 a0.Kids s0_.1).bind fun x2=>(Zno x2 0).bind fun y3=>(Zhd 8 s0_.2 ([y3]:List Int)).bind fun l4=>some (.inl ((IntKind.i64.wrap (s0_.1+1)),l4))) (some (.inr s0_.2))
noncomputable def Zhg (a0:Zb):Option (List Int) :=
 (Zw (Zbs a0) (0,([]:List Int))).bind fun (z6:(List Int))=>(Zd2 (IntKind.i64.wrap (a0.Kind - 2)) z6).bind fun y8=>some y8.1
structure Zp where
 words:(List Int)
 next:Int
noncomputable def Kg (Kp:(Zp→Int→Zb→Option Zp)) (Gt:(Zp→Int→Zb→Option Zp)) (Xr:(Zp→Int→(List Zb)→Option Zp)) (Gu:(Zp→Int→Zb→Option Zp)) (a0:Zp) (a1:Int) (a2:Zb):Option Zp :=
 cond (a2.Kind == 0) (some (⟨a0.words,a0.next⟩:Zp)) ((Zar a2).bind fun y2=>(Yt y2).bind fun y4=>(cond (cond (y2.Kind == 1) (y4.1 == 0) false) (some (-1)) (some (IntKind.i64.wrap ((IntKind.i64.wrap (a0.next - a1)) - 1)))).bind fun (z5:Int)=>(Qd (⟨y2.Kind,z5,y2.Data,y2.Ptrs,y2.Code,y2.Count,y2.Segment,y2.Double⟩:Zs)).bind fun y10=>(Y2 a0.words a1).bind fun x11=>(Gt (⟨(Xu a0.words a1 y10.1),(IntKind.i64.wrap (a0.next+y4.1))⟩:Zp) a0.next a2).bind fun y13=>some (⟨y13.words,y13.next⟩:Zp))
noncomputable def Jd (Kp:(Zp→Int→Zb→Option Zp)) (Gt:(Zp→Int→Zb→Option Zp)) (Xr:(Zp→Int→(List Zb)→Option Zp)) (Gu:(Zp→Int→Zb→Option Zp)) (a0:Zp) (a1:Int) (a2:Zb):Option Zp :=
 cond (a2.Kind == 1) ((Xe (0 < List.length a0.words∧0≤a1∧a1≤(List.length a0.words:Int))).bind fun u1=>(Xr (⟨(Zjj a0.words a1 a2.Words),a0.next⟩:Zp) (IntKind.i64.wrap (a1+((min (List.length a2.Words) (Int.toNat ((List.length a0.words:Int) - a1)):Nat):Int))) a2.Kids).bind fun y3=>some (⟨y3.words,y3.next⟩:Zp)) (cond (a2.Kind == 8) ((Xr (⟨a0.words,a0.next⟩:Zp) a1 a2.Kids).bind fun y4=>some (⟨y4.words,y4.next⟩:Zp)) (cond (a2.Kind == 9) ((Gu (⟨a0.words,a0.next⟩:Zp) a1 a2).bind fun y5=>some (⟨y5.words,y5.next⟩:Zp)) ((Xe (0 < List.length a0.words∧0≤a1∧a1≤(List.length a0.words:Int))).bind fun u6=>(Zhg a2).bind fun y7=>some (⟨(Zjj a0.words a1 y7),a0.next⟩:Zp))))
noncomputable def K0 (Kp:(Zp→Int→Zb→Option Zp)) (a1:Int) (a2:(List Zb)) (s0_:(Int×(List Int)×Int)):Option ((Int×(List Int)×Int) ⊕ ((List Int)×Int)) :=
 cond (decide (s0_.1 < (a2.length:Int))) ((Y2 a2 s0_.1).bind fun x2=>(Kp (⟨s0_.2.1,s0_.2.2⟩:Zp) (IntKind.i64.wrap (a1+s0_.1)) x2).bind fun y3=>some (.inl ((IntKind.i64.wrap (s0_.1+1)),y3.words,y3.next))) (some (.inr (s0_.2.1,s0_.2.2)))
noncomputable def Zbn (Kp:(Zp→Int→Zb→Option Zp)) (Gt:(Zp→Int→Zb→Option Zp)) (Xr:(Zp→Int→(List Zb)→Option Zp)) (Gu:(Zp→Int→Zb→Option Zp)) (a0:Zp) (a1:Int) (a2:(List Zb)):Option Zp :=
 (Zw (K0 Kp a1 a2) (0,a0.words,a0.next)).bind fun (z5:((List Int)×Int))=>some (⟨z5.1,z5.2⟩:Zp)
noncomputable def Vs (a1:Int) (a2:Zb) (y2:(Int×Int)) (s0_:(Int×(List Int))):Option ((Int×(List Int)) ⊕ (List Int)) :=
 cond (decide (s0_.1 < (a2.Kids.length:Int))) ((Y2 a2.Kids s0_.1).bind fun x9=>(Xe (0 < List.length s0_.2∧0≤(IntKind.i64.wrap ((IntKind.i64.wrap (a1+1))+(IntKind.i64.wrap (s0_.1 * (IntKind.i64.wrap (y2.1+y2.2))))))∧(IntKind.i64.wrap ((IntKind.i64.wrap (a1+1))+(IntKind.i64.wrap (s0_.1 * (IntKind.i64.wrap (y2.1+y2.2))))))≤(List.length s0_.2:Int))).bind fun u10=>some (.inl ((IntKind.i64.wrap (s0_.1+1)),(Zjj s0_.2 (IntKind.i64.wrap ((IntKind.i64.wrap (a1+1))+(IntKind.i64.wrap (s0_.1 * (IntKind.i64.wrap (y2.1+y2.2)))))) x9.Words)))) (some (.inr s0_.2))
noncomputable def Vt (Xr:(Zp→Int→(List Zb)→Option Zp)) (a1:Int) (a2:Zb) (y2:(Int×Int)) (s1_:(Int×(List Int)×Int)):Option ((Int×(List Int)×Int) ⊕ ((List Int)×Int)) :=
 cond (decide (s1_.1 < (a2.Kids.length:Int))) ((Y2 a2.Kids s1_.1).bind fun x15=>(Xr (⟨s1_.2.1,s1_.2.2⟩:Zp) (IntKind.i64.wrap ((IntKind.i64.wrap ((IntKind.i64.wrap (a1+1))+(IntKind.i64.wrap (s1_.1 * (IntKind.i64.wrap (y2.1+y2.2))))))+y2.1)) x15.Kids).bind fun y16=>some (.inl ((IntKind.i64.wrap (s1_.1+1)),y16.words,y16.next))) (some (.inr (s1_.2.1,s1_.2.2)))
noncomputable def Zcj (Kp:(Zp→Int→Zb→Option Zp)) (Gt:(Zp→Int→Zb→Option Zp)) (Xr:(Zp→Int→(List Zb)→Option Zp)) (Gu:(Zp→Int→Zb→Option Zp)) (a0:Zp) (a1:Int) (a2:Zb):Option Zp :=
 (Ze8 a2).bind fun y2=>(cond (decide (0 < (a2.Kids.length:Int))) ((Qd (⟨1,(a2.Kids.length:Int),y2.1,y2.2,0,0,0,false⟩:Zs)).bind fun y4=>(Y2 a0.words a1).bind fun x5=>some (Xu a0.words a1 y4.1)) (some a0.words)).bind fun (z3:(List Int))=>(Zw (Vs a1 a2 y2) (0,z3)).bind fun (z13:(List Int))=>(Zw (Vt Xr a1 a2 y2) (0,z13,a0.next)).bind fun (z18:((List Int)×Int))=>some (⟨z18.1,z18.2⟩:Zp)
noncomputable def Zl:Nat→((Zp→Int→Zb→Option Zp)×(Zp→Int→Zb→Option Zp)×(Zp→Int→(List Zb)→Option Zp)×(Zp→Int→Zb→Option Zp))
 | 0=>((fun _ _ _=>none),(fun _ _ _=>none),(fun _ _ _=>none),(fun _ _ _=>none))
 | k+1=>(Kg ((Zl k).1) ((Zl k).2.1) ((Zl k).2.2.1) ((Zl k).2.2.2),Jd ((Zl k).1) ((Zl k).2.1) ((Zl k).2.2.1) ((Zl k).2.2.2),Zbn ((Zl k).1) ((Zl k).2.1) ((Zl k).2.2.1) ((Zl k).2.2.2),Zcj ((Zl k).1) ((Zl k).2.1) ((Zl k).2.2.1) ((Zl k).2.2.2))
noncomputable def Zdk (a0:Zp) (a1:Int) (a2:Zb):Option Zp:=lim fun k=>(Zl k).1 a0 a1 a2
noncomputable def Znk (a0:Zb) (a1:Int):Option ((List Int)×Bool) :=
 (cond (a0.Kind == 10) (some true) ((Zsm a0).bind fun y4=>some (cond (a0.Kind == 10) true (!y4)))).bind fun (z2:Bool)=>cond z2 (some (([]:(List Int)),false)) ((Znm a0).bind fun y7=>(Znn y7).bind fun y9=>cond (cond (decide (a1 < (IntKind.i64.wrap (1+y9)))) true (decide (131072 < (IntKind.i64.wrap (1+y9))))) (some (([]:(List Int)),false)) ((Zfn 8 (IntKind.i64.wrap (1+y9)) (0:Int)).bind fun l11=>(Zdk (⟨l11,1⟩:Zp) 0 y7).bind fun y13=>some (y13.words,true)))
noncomputable def V2 (a0:(List Int)) (a1:(List Int)) (s0_:Int):Option (Int ⊕ (Unit ⊕ Unit)) :=
 cond (decide (s0_ < (a0.length:Int))) ((Y2 a0 s0_).bind fun x3=>(Y2 a1 s0_).bind fun x4=>cond (x3 != x4) (some (.inr (.inl ()))) (some (.inl (IntKind.i64.wrap (s0_+1))))) (some (.inr (.inr ())))
noncomputable def Q7 (a0:(List Int)) (a1:(List Int)):Option Bool :=
 cond ((a0.length:Int) != (a1.length:Int)) (some false) ((Zw (V2 a0 a1) 0).bind fun (z7:(Unit ⊕ Unit))=>match z7 with | .inl z7=>some false | .inr z7=>some true)
noncomputable def Xi (a0:Int):Option Int :=
 cond (a0 == 0) (some 0) (cond (a0 == 1) (some 1) (cond (a0 == 2) (some 8) (cond (a0 == 3) (some 16) (cond (a0 == 4) (some 32) (cond (a0 == 5) (some 64) (some (-1)))))))
noncomputable def X6 (y2:Int) (s0_:(Int×Int)):Option ((Int×Int) ⊕ Int) :=
 cond (decide (s0_.2 < y2)) (some (.inl ((IntKind.u64.wrap (Int.tdiv s0_.1 2)),(IntKind.i64.wrap (s0_.2+1))))) (some (.inr s0_.1))
noncomputable def Ka (a0:Int) (a1:Int):Option Bool :=
 (Xi a0).bind fun y2=>cond (decide (y2 < 0)) (some false) ((Zw (X6 y2) (a1,0)).bind fun (z4:Int)=>some (z4 == 0))
noncomputable def K3 (Qz:(Zb→Int→Option Bool)) (a0:Zb) (a1:Int) (s0_:Int):Option (Int ⊕ (Unit ⊕ Unit)) :=
 cond (decide (s0_ < (a0.Kids.length:Int))) ((Y2 a0.Kids s0_).bind fun x2=>(Qz x2 (IntKind.i64.wrap (a1 - 1))).bind fun y4=>cond (!y4) (some (.inr (.inl ()))) ((cond ((cond (decide (2≤a0.Kind)) (decide (a0.Kind≤7)) false) != (x2.Kind == 10)) (some true) (cond (a0.Kind == 9) (cond (x2.Kind != 1) (some true) (cond (decide (2≤a0.Kind)) (cond (decide (a0.Kind≤7)) ((Y2 x2.Words 0).bind fun x14=>(Ka (IntKind.i64.wrap (a0.Kind - 2)) x14).bind fun y15=>some (cond (cond ((cond (decide (2≤a0.Kind)) (decide (a0.Kind≤7)) false) != (x2.Kind == 10)) true (cond (a0.Kind == 9) (x2.Kind != 1) false)) true (cond (cond (decide (2≤a0.Kind)) (decide (a0.Kind≤7)) false) (!y15) false))) (some (cond (cond ((cond (decide (2≤a0.Kind)) (decide (a0.Kind≤7)) false) != (x2.Kind == 10)) true (cond (a0.Kind == 9) (x2.Kind != 1) false)) true false))) (some (cond (cond ((cond (decide (2≤a0.Kind)) (decide (a0.Kind≤7)) false) != (x2.Kind == 10)) true (cond (a0.Kind == 9) (x2.Kind != 1) false)) true false)))) (cond (decide (2≤a0.Kind)) (cond (decide (a0.Kind≤7)) ((Y2 x2.Words 0).bind fun x16=>(Ka (IntKind.i64.wrap (a0.Kind - 2)) x16).bind fun y17=>some (cond (cond ((cond (decide (2≤a0.Kind)) (decide (a0.Kind≤7)) false) != (x2.Kind == 10)) true (cond (a0.Kind == 9) (x2.Kind != 1) false)) true (cond (cond (decide (2≤a0.Kind)) (decide (a0.Kind≤7)) false) (!y17) false))) (some (cond (cond ((cond (decide (2≤a0.Kind)) (decide (a0.Kind≤7)) false) != (x2.Kind == 10)) true (cond (a0.Kind == 9) (x2.Kind != 1) false)) true false))) (some (cond (cond ((cond (decide (2≤a0.Kind)) (decide (a0.Kind≤7)) false) != (x2.Kind == 10)) true (cond (a0.Kind == 9) (x2.Kind != 1) false)) true false))))).bind fun (z9:Bool)=>cond z9 (some (.inr (.inl ()))) (some (.inl (IntKind.i64.wrap (s0_+1)))))) (some (.inr (.inr ())))
noncomputable def U9 (Qz:(Zb→Int→Option Bool)) (a0:Zb) (a1:Int):Option Bool :=
 cond (a0.Kind == 0) (some (cond ((a0.Words.length:Int) == 0) ((a0.Kids.length:Int) == 0) false)) (cond (a0.Kind == 10) (some (cond ((a0.Words.length:Int) == 1) ((a0.Kids.length:Int) == 0) false)) (cond (cond (cond (cond (cond (cond (decide (a0.Kind < 0)) true (decide (10 < a0.Kind))) true (a1 == 0)) true (decide (65536≤(a0.Words.length:Int)))) true (cond (a0.Kind == 1) (decide (65536≤(a0.Kids.length:Int))) false)) true (decide (1048576≤(a0.Kids.length:Int)))) (some false) (cond (cond (decide (1 < a0.Kind)) (decide (0 < (a0.Words.length:Int))) false) (some false) ((Zw (K3 Qz a0 a1) 0).bind fun (z28:(Unit ⊕ Unit))=>match z28 with | .inl z28=>some false | .inr z28=>some true))))
noncomputable def Q5:Nat→(Zb→Int→Option Bool)
 | 0=>(fun _ _=>none)
 | k+1=>U9 ((Q5 k))
noncomputable def Zd1 (a0:Zb) (a1:Int):Option Bool:=lim fun k=>(Q5 k) a0 a1
noncomputable def V3 (a0:(List Int)) (s0_:Int):Option (Int ⊕ Int) :=
 (cond (decide (0 < s0_)) ((Y2 a0 (IntKind.i64.wrap (s0_ - 1))).bind fun x4=>some (cond (decide (0 < s0_)) (x4 == 0) false)) (some false)).bind fun (z2:Bool)=>cond z2 (some (.inl (IntKind.i64.wrap (s0_ - 1)))) (some (.inr s0_))
noncomputable def Zaf (a0:(List Int)):Option (List Int) :=
 (Zw (V3 a0) (a0.length:Int)).bind fun (z7:Int)=>(Zjg a0 0 z7).bind fun l10=>(Zhd 8 ([]:List Int) l10).bind fun l11=>some l11
noncomputable def Qv (Jc:(Zb→Option Zb)) (a0:Zb) (s0_:(Int×Int×(List Zb))):Option ((Int×Int×(List Zb)) ⊕ (Int×(List Zb))) :=
 cond (decide (s0_.2.1 < (a0.Kids.length:Int))) (((Y2 a0.Kids s0_.2.1).bind fun x4=>(Jc x4).bind fun y5=>(Zhd 56 s0_.2.2 ([y5]:List Zb)).bind fun l7=>cond (y5.Kind != 0) (some ((IntKind.i64.wrap (s0_.2.1+1)),l7)) (some (s0_.1,l7))).bind fun (z1:(Int×(List Zb)))=>some (.inl (z1.1,(IntKind.i64.wrap (s0_.2.1+1)),z1.2))) (some (.inr (s0_.1,s0_.2.2)))
noncomputable def Zaa (Jc:(Zb→Option Zb)) (a0:Zb):Option Zb :=
 cond (a0.Kind == 0) (some (⟨0,[],[]⟩:Zb)) ((Zw (Qv Jc a0) (0,0,([]:List Zb))).bind fun (z10:(Int×(List Zb)))=>cond (a0.Kind == 1) ((Zaf a0.Words).bind fun y14=>(Zjg z10.2 0 z10.1).bind fun l15=>some (⟨1,y14,l15⟩:Zb)) ((Zhd 8 ([]:List Int) a0.Words).bind fun l17=>some (⟨a0.Kind,l17,z10.2⟩:Zb)))
noncomputable def Xt:Nat→(Zb→Option Zb)
 | 0=>(fun _=>none)
 | k+1=>Zaa ((Xt k))
noncomputable def Ze3 (a0:Zb):Option Zb:=lim fun k=>(Xt k) a0
noncomputable def V8 (a0:Int) (a1:Int):Option Int :=
 (Xi a0).bind fun y2=>cond (cond (cond (decide (y2 < 1)) true (decide (a1 < 0))) true (decide (1099511627776 < a1))) (some 0) ((Xi a0).bind fun y5=>(Xe (y5≠0)).bind fun u6=>(Xe ((IntKind.i64.wrap (Int.tdiv 64 y5))≠0)).bind fun u8=>cond (decide (0 < (Int.tmod a1 (IntKind.i64.wrap (Int.tdiv 64 y5))))) ((Xe ((IntKind.i64.wrap (Int.tdiv 64 y5))≠0)).bind fun u10=>some (IntKind.i64.wrap ((IntKind.i64.wrap (Int.tdiv a1 (IntKind.i64.wrap (Int.tdiv 64 y5))))+1))) ((Xe ((IntKind.i64.wrap (Int.tdiv 64 y5))≠0)).bind fun u12=>some (IntKind.i64.wrap (Int.tdiv a1 (IntKind.i64.wrap (Int.tdiv 64 y5))))))
noncomputable def K4 (a0:Zb) (s0_:(Int×Int×Int)):Option ((Int×Int×Int) ⊕ (Int×Int)) :=
 cond (decide (s0_.2.2 < (a0.Kids.length:Int))) ((((Y2 a0.Kids s0_.2.2).bind fun x5=>cond (decide (s0_.1 < (x5.Words.length:Int))) ((Y2 a0.Kids s0_.2.2).bind fun x7=>some (x7.Words.length:Int)) (some s0_.1)).bind fun (z2:Int)=>(Y2 a0.Kids s0_.2.2).bind fun x12=>cond (decide (s0_.2.1 < (x12.Kids.length:Int))) ((Y2 a0.Kids s0_.2.2).bind fun x14=>some (z2,(x14.Kids.length:Int))) (some (z2,s0_.2.1))).bind fun (z1:(Int×Int))=>some (.inl (z1.1,z1.2,(IntKind.i64.wrap (s0_.2.2+1))))) (some (.inr (s0_.1,s0_.2.1)))
noncomputable def Vf (a0:Zb):Option (Int×Int) :=
 (Zw (K4 a0) (0,0,0)).bind fun (z18:(Int×Int))=>some (z18.1,z18.2)
noncomputable def Vy (Y6:(Zb→Option Int)) (a0:Zb) (s0_:(Int×Int)) (s1_:(Int×Int)):Option ((Int×Int) ⊕ Int) :=
 (Y2 a0.Kids s0_.2).bind fun x14=>cond (decide (s1_.2 < (x14.Kids.length:Int))) ((Y2 a0.Kids s0_.2).bind fun x16=>(Y2 x16.Kids s1_.2).bind fun x18=>(Y6 x18).bind fun y19=>some (.inl ((IntKind.i64.wrap (s1_.1+y19)),(IntKind.i64.wrap (s1_.2+1))))) (some (.inr s1_.1))
noncomputable def Vx (Y6:(Zb→Option Int)) (a0:Zb) (s0_:(Int×Int)):Option ((Int×Int) ⊕ Int) :=
 cond (decide (s0_.2 < (a0.Kids.length:Int))) ((Zw (Vy Y6 a0 s0_) (s0_.1,0)).bind fun (z21:Int)=>some (.inl (z21,(IntKind.i64.wrap (s0_.2+1))))) (some (.inr s0_.1))
noncomputable def Jo (Y6:(Zb→Option Int)) (a0:Zb) (s2_:(Int×Int)):Option ((Int×Int) ⊕ Int) :=
 cond (decide (s2_.2 < (a0.Kids.length:Int))) ((Y2 a0.Kids s2_.2).bind fun x28=>(Y6 x28).bind fun y29=>some (.inl ((IntKind.i64.wrap (s2_.1+y29)),(IntKind.i64.wrap (s2_.2+1))))) (some (.inr s2_.1))
noncomputable def Zab (Y6:(Zb→Option Int)) (a0:Zb):Option Int :=
 (cond (a0.Kind == 1) (some (.inl (IntKind.i64.wrap ((a0.Words.length:Int)+(a0.Kids.length:Int))))) (cond (a0.Kind == 8) (some (.inl (a0.Kids.length:Int))) ((cond (a0.Kind == 2) (some (a0.Kind == 2)) (cond (a0.Kind == 3) (some (a0.Kind == 3)) (cond (a0.Kind == 4) (some (a0.Kind == 4)) (cond (a0.Kind == 5) (some (a0.Kind == 5)) (cond (a0.Kind == 6) (some (a0.Kind == 6)) (some (a0.Kind == 7))))))).bind fun (z2:Bool)=>cond z2 ((V8 (IntKind.i64.wrap (a0.Kind - 2)) (a0.Kids.length:Int)).bind fun y9=>some (.inr y9)) (cond (a0.Kind == 9) ((Vf a0).bind fun y11=>(Zw (Vx Y6 a0) ((IntKind.i64.wrap (1+(IntKind.i64.wrap ((a0.Kids.length:Int) * (IntKind.i64.wrap (y11.1+y11.2)))))),0)).bind fun (z23:Int)=>some (.inr z23)) (some (.inl 0)))))).bind fun (z1:(Int ⊕ Int))=>match z1 with | .inl z1=>(Zw (Jo Y6 a0) (z1,0)).bind fun (z31:Int)=>some z31 | .inr z1=>some z1
noncomputable def Xh:Nat→(Zb→Option Int)
 | 0=>(fun _=>none)
 | k+1=>Zab ((Xh k))
noncomputable def Zcn (a0:Zb):Option Int:=lim fun k=>(Xh k) a0
noncomputable def X7 (a0:Int) (a1:Int) (a2:Int) (a3:Int):Option Int :=
 (cond (decide ((IntKind.i64.wrap ((IntKind.i64.wrap (a1 - a0)) - 1)) < 0)) (some (IntKind.i64.wrap ((IntKind.i64.wrap ((IntKind.i64.wrap (a1 - a0)) - 1))+1073741824))) (some (IntKind.i64.wrap ((IntKind.i64.wrap (a1 - a0)) - 1)))).bind fun (z1:Int)=>some (IntKind.u64.wrap ((IntKind.u64.wrap (IntKind.i64.wrap ((IntKind.i64.wrap (4 * z1))+a2)))+(IntKind.u64.wrap (a3 * 4294967296))))
noncomputable def Up (a1:Int) (s0_:(Int×(List Int))):Option ((Int×(List Int)) ⊕ (List Int)) :=
 cond (decide (s0_.1 < a1)) ((Zhd 8 s0_.2 ([0]:List Int)).bind fun l1=>some (.inl ((IntKind.i64.wrap (s0_.1+1)),l1))) (some (.inr s0_.2))
noncomputable def Vg (a0:(List Int)) (a1:Int):Option (List Int) :=
 (Zw (Up a1) (0,a0)).bind fun (z3:(List Int))=>some z3
noncomputable def K5 (a0:Zb) (s0_:(Int×(List Int))):Option ((Int×(List Int)) ⊕ (List Int)) :=
 cond (decide (s0_.1 < (a0.Kids.length:Int))) ((Y2 a0.Kids s0_.1).bind fun x1=>(Y2 x1.Words 0).bind fun x3=>(Zhd 8 s0_.2 ([x3]:List Int)).bind fun l4=>some (.inl ((IntKind.i64.wrap (s0_.1+1)),l4))) (some (.inr s0_.2))
noncomputable def Gg (a0:Zb):Option (List Int) :=
 (Zw (K5 a0) (0,([]:List Int))).bind fun (z6:(List Int))=>some z6
noncomputable def Zay (y2:Int) (s0_:(Int×(List Int))) (s1_:(Int×Int)):Option ((Int×Int) ⊕ Int) :=
 cond (decide (s1_.2 < (Int.tmod (IntKind.i64.wrap (s0_.1 * y2)) 64))) (some (.inl ((IntKind.u64.wrap (s1_.1 * 2)),(IntKind.i64.wrap (s1_.2+1))))) (some (.inr s1_.1))
noncomputable def Xb (a0:Int) (a1:(List Int)) (y2:Int) (s0_:(Int×(List Int))):Option ((Int×(List Int)) ⊕ (Unit ⊕ (List Int))) :=
 cond (decide (s0_.1 < (a1.length:Int))) (((Y2 a1 s0_.1).bind fun x9=>(Ka a0 x9).bind fun y11=>cond (!y11) (some (.inr ())) ((Zw (Zay y2 s0_) (x9,0)).bind fun (z13:Int)=>cond (decide (0 < y2)) ((Y2 s0_.2 (IntKind.i64.wrap (Int.tdiv (IntKind.i64.wrap (s0_.1 * y2)) 64))).bind fun x14=>some (.inl (Xu s0_.2 (IntKind.i64.wrap (Int.tdiv (IntKind.i64.wrap (s0_.1 * y2)) 64)) (IntKind.u64.wrap (x14+z13))))) (some (.inl s0_.2)))).bind fun (z7:((List Int) ⊕ Unit))=>match z7 with | .inl z7=>some (.inl ((IntKind.i64.wrap (s0_.1+1)),z7)) | .inr z7=>some (.inr (.inl ()))) (some (.inr (.inr s0_.2)))
noncomputable def Za7 (a0:Int) (a1:(List Int)):Option ((List Int)×Bool) :=
 (Xi a0).bind fun y2=>cond (decide (y2 < 0)) (some (([]:(List Int)),false)) ((V8 a0 (a1.length:Int)).bind fun y5=>(Zfn 8 y5 (0:Int)).bind fun l6=>(Zw (Xb a0 a1 y2) (0,l6)).bind fun (z20:(Unit ⊕ (List Int)))=>match z20 with | .inl z20=>some (([]:(List Int)),false) | .inr z20=>some (z20,true))
noncomputable def Ui (Yz:((List Int)→Int→Zb→Option (List Int))) (a2:Zb) (z1:Int) (s0_:(Int×(List Int))):Option ((Int×(List Int)) ⊕ (List Int)) :=
 cond (decide (s0_.1 < (a2.Kids.length:Int))) ((Y2 a2.Kids s0_.1).bind fun x13=>(Yz s0_.2 (IntKind.i64.wrap ((IntKind.i64.wrap (z1+(a2.Words.length:Int)))+s0_.1)) x13).bind fun y14=>some (.inl ((IntKind.i64.wrap (s0_.1+1)),y14))) (some (.inr s0_.2))
noncomputable def Uj (Yz:((List Int)→Int→Zb→Option (List Int))) (a0:(List Int)) (a2:Zb) (s1_:(Int×(List Int))):Option ((Int×(List Int)) ⊕ (List Int)) :=
 cond (decide (s1_.1 < (a2.Kids.length:Int))) ((Y2 a2.Kids s1_.1).bind fun x25=>(Yz s1_.2 (IntKind.i64.wrap ((a0.length:Int)+s1_.1)) x25).bind fun y26=>some (.inl ((IntKind.i64.wrap (s1_.1+1)),y26))) (some (.inr s1_.2))
noncomputable def Uk (a2:Zb) (y30:(Int×Int)) (s2_:(Int×(List Int))):Option ((Int×(List Int)) ⊕ (List Int)) :=
 cond (decide (s2_.1 < (a2.Kids.length:Int))) ((Y2 a2.Kids s2_.1).bind fun x42=>(Zhd 8 s2_.2 x42.Words).bind fun l44=>(Y2 a2.Kids s2_.1).bind fun x45=>(Vg l44 (IntKind.i64.wrap ((IntKind.i64.wrap (y30.1+y30.2)) - (x45.Words.length:Int)))).bind fun y47=>some (.inl ((IntKind.i64.wrap (s2_.1+1)),y47))) (some (.inr s2_.2))
noncomputable def Um (Yz:((List Int)→Int→Zb→Option (List Int))) (a0:(List Int)) (a2:Zb) (y30:(Int×Int)) (s3_:(Int×(List Int))) (s4_:(Int×(List Int))):Option ((Int×(List Int)) ⊕ (List Int)) :=
 (Y2 a2.Kids s3_.1).bind fun x52=>cond (decide (s4_.1 < (x52.Kids.length:Int))) ((Y2 a2.Kids s3_.1).bind fun x54=>(Y2 x54.Kids s4_.1).bind fun x56=>(Yz s4_.2 (IntKind.i64.wrap ((IntKind.i64.wrap ((IntKind.i64.wrap ((IntKind.i64.wrap ((a0.length:Int)+1))+(IntKind.i64.wrap (s3_.1 * (IntKind.i64.wrap (y30.1+y30.2))))))+y30.1))+s4_.1)) x56).bind fun y57=>some (.inl ((IntKind.i64.wrap (s4_.1+1)),y57))) (some (.inr s4_.2))
noncomputable def Ul (Yz:((List Int)→Int→Zb→Option (List Int))) (a0:(List Int)) (a2:Zb) (y30:(Int×Int)) (s3_:(Int×(List Int))):Option ((Int×(List Int)) ⊕ (List Int)) :=
 cond (decide (s3_.1 < (a2.Kids.length:Int))) ((Zw (Um Yz a0 a2 y30 s3_) (0,s3_.2)).bind fun (z59:(List Int))=>some (.inl ((IntKind.i64.wrap (s3_.1+1)),z59))) (some (.inr s3_.2))
noncomputable def Xn (Yz:((List Int)→Int→Zb→Option (List Int))) (a0:(List Int)) (a1:Int) (a2:Zb):Option (List Int) :=
 cond (a2.Kind == 0) (some a0) (cond (a2.Kind == 1) ((cond ((IntKind.i64.wrap ((a2.Words.length:Int)+(a2.Kids.length:Int))) == 0) (some a1) (some (a0.length:Int))).bind fun (z1:Int)=>(X7 a1 z1 0 (IntKind.u64.wrap ((IntKind.u64.wrap (a2.Words.length:Int))+(IntKind.u64.wrap (65536 * (IntKind.u64.wrap (a2.Kids.length:Int))))))).bind fun y6=>(Y2 a0 a1).bind fun x7=>(Zhd 8 (Xu a0 a1 y6) a2.Words).bind fun l10=>(Vg l10 (a2.Kids.length:Int)).bind fun y12=>(Zw (Ui Yz a2 z1) (0,y12)).bind fun (z16:(List Int))=>some z16) (cond (a2.Kind == 8) ((X7 a1 (a0.length:Int) 1 (IntKind.u64.wrap (6+(IntKind.u64.wrap (8 * (IntKind.u64.wrap (a2.Kids.length:Int))))))).bind fun y20=>(Y2 a0 a1).bind fun x21=>(Vg (Xu a0 a1 y20) (a2.Kids.length:Int)).bind fun y24=>(Zw (Uj Yz a0 a2) (0,y24)).bind fun (z28:(List Int))=>some z28) (cond (a2.Kind == 9) ((Vf a2).bind fun y30=>(X7 a1 (a0.length:Int) 1 (IntKind.u64.wrap (7+(IntKind.u64.wrap (8 * (IntKind.u64.wrap (IntKind.i64.wrap ((a2.Kids.length:Int) * (IntKind.i64.wrap (y30.1+y30.2)))))))))).bind fun y34=>(Y2 a0 a1).bind fun x35=>(Zhd 8 (Xu a0 a1 y34) ([(IntKind.u64.wrap ((IntKind.u64.wrap (IntKind.i64.wrap (4 * (a2.Kids.length:Int))))+(IntKind.u64.wrap (4294967296 * (IntKind.u64.wrap ((IntKind.u64.wrap y30.1)+(IntKind.u64.wrap (65536 * (IntKind.u64.wrap y30.2)))))))))]:List Int)).bind fun l38=>(Zw (Uk a2 y30) (0,l38)).bind fun (z49:(List Int))=>(Zw (Ul Yz a0 a2 y30) (0,z49)).bind fun (z61:(List Int))=>some z61) ((Gg a2).bind fun y64=>(Za7 (IntKind.i64.wrap (a2.Kind - 2)) y64).bind fun y65=>(X7 a1 (a0.length:Int) 1 (IntKind.u64.wrap ((IntKind.u64.wrap (IntKind.i64.wrap (a2.Kind - 2)))+(IntKind.u64.wrap (8 * (IntKind.u64.wrap (a2.Kids.length:Int))))))).bind fun y69=>(Y2 a0 a1).bind fun x70=>(Zhd 8 (Xu a0 a1 y69) y65.1).bind fun l73=>some l73))))
noncomputable def Yl:Nat→((List Int)→Int→Zb→Option (List Int))
 | 0=>(fun _ _ _=>none)
 | k+1=>Xn ((Yl k))
noncomputable def Zf7 (a0:(List Int)) (a1:Int) (a2:Zb):Option (List Int):=lim fun k=>(Yl k) a0 a1 a2
noncomputable def Uo (a0:Zb) (a1:Int):Option ((List Int)×Bool) :=
 (Zd1 a0 64).bind fun y2=>cond (cond (!y2) true (a0.Kind == 10)) (some (([]:(List Int)),false)) ((Ze3 a0).bind fun y4=>((Zcn y4).bind fun y10=>cond (decide (a1≤y10)) (some true) ((Zcn y4).bind fun y11=>some (cond (decide (a1≤y10)) true (decide (131072≤y11))))).bind fun (z7:Bool)=>cond z7 (some (([]:(List Int)),false)) ((Zf7 ([0]:List Int) 0 y4).bind fun y14=>some (y14,true)))
structure Ya where
 Depth:Int
 Weight:Int
 MaxD:Int
 MaxOut:Int
noncomputable def Ge (a0:Ya):Option Ya :=
 (cond (decide (3000 < a0.Weight)) (some 3000) (some a0.Weight)).bind fun (z1:Int)=>some (⟨a0.Depth,z1,a0.MaxD,a0.MaxOut⟩:Ya)
noncomputable def Qk (a0:Int) (a1:Int):Option Int :=
 cond (decide (a0 < 0)) (some 0) (cond (decide (a1 < a0)) (some a1) (some a0))
noncomputable def Un (a0:Ya):Option Ya :=
 (Qk a0.Depth 64).bind fun y5=>(Qk a0.Weight 65536).bind fun y6=>(Qk a0.MaxD 4096).bind fun y7=>(Qk a0.MaxOut 131072).bind fun y8=>some (⟨y5,y6,y7,y8⟩:Ya)
noncomputable def Jw (a0:(List (List Int))) (a1:Int) (a2:Int):Option Bool :=
 (cond (decide (0≤a1)) (cond (decide (a1 < (a0.length:Int))) (cond (decide (0≤a2)) ((Y2 a0 a1).bind fun x4=>some (cond (cond (cond (decide (0≤a1)) (decide (a1 < (a0.length:Int))) false) (decide (0≤a2)) false) (decide (a2 < (x4.length:Int))) false)) (some false)) (some false)) (some false)).bind fun (z2:Bool)=>some z2
noncomputable def Gn (a1:Int) (s0_:(Int×Int)):Option ((Int×Int) ⊕ Int) :=
 cond (decide (s0_.2 < a1)) (some (.inl ((IntKind.u64.wrap (Int.tdiv s0_.1 2)),(IntKind.i64.wrap (s0_.2+1))))) (some (.inr s0_.1))
noncomputable def Gp (a2:Int) (s1_:(Int×Int×Int×Int)):Option ((Int×Int×Int×Int) ⊕ Int) :=
 cond (decide (s1_.2.2.2 < a2)) ((cond ((Int.tmod s1_.1 2) == 1) (some (IntKind.i64.wrap (s1_.2.1+s1_.2.2.1))) (some s1_.2.1)).bind fun (z3:Int)=>some (.inl ((IntKind.u64.wrap (Int.tdiv s1_.1 2)),z3,(IntKind.i64.wrap (2 * s1_.2.2.1)),(IntKind.i64.wrap (s1_.2.2.2+1))))) (some (.inr s1_.2.1))
noncomputable def Z6 (a0:Int) (a1:Int) (a2:Int):Option Int :=
 (Zw (Gn a1) (a0,0)).bind fun (z2:Int)=>(Zw (Gp a2) (z2,0,1,0)).bind fun (z6:Int)=>some z6
noncomputable def Xl (a0:Int):Option Zs :=
 cond (a0 == 0) (some (⟨0,0,0,0,0,0,0,false⟩:Zs)) ((Z6 a0 2 30).bind fun y2=>(cond (decide (536870912≤y2)) (some (IntKind.i64.wrap (y2 - 1073741824))) (some y2)).bind fun (z3:Int)=>(Z6 a0 0 2).bind fun y6=>cond (y6 == 0) ((Z6 a0 32 16).bind fun y9=>(Z6 a0 48 16).bind fun y10=>some (⟨1,z3,y9,y10,0,0,0,false⟩:Zs)) (cond (y6 == 1) ((Z6 a0 32 3).bind fun y13=>(Z6 a0 35 29).bind fun y14=>some (⟨2,z3,0,0,y13,y14,0,false⟩:Zs)) (cond (y6 == 2) ((Z6 a0 3 29).bind fun y18=>(Z6 a0 32 32).bind fun y19=>(Z6 a0 2 1).bind fun y20=>some (⟨3,y18,0,0,0,0,y19,(y20 == 1)⟩:Zs)) (some (⟨4,0,0,0,0,0,0,false⟩:Zs)))))
noncomputable def Jk (a0:Zs):Option Int :=
 cond (a0.Kind == 4) (some 9) (cond (cond (a0.Kind != 1) (a0.Kind != 2) false) (some 8) (some 0))
noncomputable def Gf (a0:Zs):Option Int :=
 cond (a0.Kind == 1) (some (IntKind.i64.wrap (a0.Data+a0.Ptrs))) (cond (a0.Kind != 2) (some (-1)) (cond (a0.Code == 7) (some (IntKind.i64.wrap (a0.Count+1))) (cond (cond (cond (cond (decide (a0.Code < 0)) true (decide (6 < a0.Code))) true (decide (a0.Count < 0))) true (decide (536870912≤a0.Count))) (some (-1)) ((cond (a0.Code == 0) (some (.inr ())) (cond (a0.Code == 1) (some (.inl 64)) (cond (a0.Code == 2) (some (.inl 8)) (cond (a0.Code == 3) (some (.inl 4)) (cond (a0.Code == 4) (some (.inl 2)) (some (.inl 1))))))).bind fun (z1:(Int ⊕ Unit))=>match z1 with | .inl z1=>(Xe (z1≠0)).bind fun u8=>cond (decide (0 < (Int.tmod a0.Count z1))) ((Xe (z1≠0)).bind fun u10=>some (IntKind.i64.wrap ((IntKind.i64.wrap (Int.tdiv a0.Count z1))+1))) ((Xe (z1≠0)).bind fun u12=>some (IntKind.i64.wrap (Int.tdiv a0.Count z1))) | .inr z1=>some 0))))
structure Z7 where
 P:Zs
 Segment:Int
 At:Int
noncomputable def Jl (a0:(List (List Int))) (a1:Z7):Option (Z7×Int) :=
 (Gf a1.P).bind fun y2=>(cond (decide (a1.Segment < 0)) (some true) (cond (decide ((a0.length:Int)≤a1.Segment)) (some true) (cond (decide (a1.At < 0)) (some true) ((Y2 a0 a1.Segment).bind fun x8=>cond (decide ((x8.length:Int) < a1.At)) (some true) (some (cond (cond (cond (cond (decide (a1.Segment < 0)) true (decide ((a0.length:Int)≤a1.Segment))) true (decide (a1.At < 0))) true (decide ((x8.length:Int) < a1.At))) true (decide ((IntKind.i64.wrap ((x8.length:Int) - a1.At)) < y2)))))))).bind fun (z5:Bool)=>cond z5 (some ((⟨⟨0,0,0,0,0,0,0,false⟩,0,0⟩:Z7),7)) (some ((⟨⟨a1.P.Kind,0,a1.P.Data,a1.P.Ptrs,a1.P.Code,a1.P.Count,a1.P.Segment,a1.P.Double⟩,a1.Segment,a1.At⟩:Z7),0))
noncomputable def Kl (a0:(List (List Int))) (a1:Int) (a2:Int):Option (Z7×Int) :=
 (Jw a0 a1 a2).bind fun y2=>cond (!y2) (some ((⟨⟨0,0,0,0,0,0,0,false⟩,0,0⟩:Z7),7)) ((Y2 a0 a1).bind fun x6=>(Y2 x6 a2).bind fun x7=>(Xl x7).bind fun y8=>cond (y8.Kind == 0) (some ((⟨⟨0,0,0,0,0,0,0,false⟩,0,0⟩:Z7),0)) (cond (cond (y8.Kind == 3) y8.Double false) (((Jw a0 y8.Segment y8.Off).bind fun y14=>cond y14 ((Jw a0 y8.Segment (IntKind.i64.wrap (y8.Off+1))).bind fun y15=>some (cond (!y14) true (!y15))) (some true)).bind fun (z11:Bool)=>cond z11 (some ((⟨⟨0,0,0,0,0,0,0,false⟩,0,0⟩:Z7),7)) ((Y2 a0 y8.Segment).bind fun x17=>(Y2 x17 y8.Off).bind fun x18=>(Xl x18).bind fun y19=>(Y2 x17 (IntKind.i64.wrap (y8.Off+1))).bind fun x21=>(Xl x21).bind fun y22=>cond (cond (y19.Kind != 3) true y19.Double) (some ((⟨⟨0,0,0,0,0,0,0,false⟩,0,0⟩:Z7),8)) ((Jk y22).bind fun y24=>(cond (cond (y24 == 0) (y22.Off != 0) false) (some 8) (some y24)).bind fun (z25:Int)=>cond (z25 != 0) (some ((⟨⟨0,0,0,0,0,0,0,false⟩,0,0⟩:Z7),z25)) ((Jl a0 (⟨y22,y19.Segment,y19.Off⟩:Z7)).bind fun y28=>some (y28.1,y28.2))))) ((cond (y8.Kind == 3) ((Jw a0 y8.Segment y8.Off).bind fun y34=>cond (!y34) (some (.inr ())) ((Y2 a0 y8.Segment).bind fun x35=>(Y2 x35 y8.Off).bind fun x36=>(Xl x36).bind fun y37=>some (.inl (y8.Segment,y8.Off,y37.Kind,y37.Off,y37.Data,y37.Ptrs,y37.Code,y37.Count,y37.Segment,y37.Double)))) (some (.inl (a1,a2,y8.Kind,y8.Off,y8.Data,y8.Ptrs,y8.Code,y8.Count,y8.Segment,y8.Double)))).bind fun (z32:((Int×Int×Int×Int×Int×Int×Int×Int×Int×Bool) ⊕ Unit))=>match z32 with | .inl z32=>(Jk (⟨z32.2.2.1,z32.2.2.2.1,z32.2.2.2.2.1,z32.2.2.2.2.2.1,z32.2.2.2.2.2.2.1,z32.2.2.2.2.2.2.2.1,z32.2.2.2.2.2.2.2.2.1,z32.2.2.2.2.2.2.2.2.2⟩:Zs)).bind fun y41=>cond (y41 != 0) (some ((⟨⟨0,0,0,0,0,0,0,false⟩,0,0⟩:Z7),y41)) ((Jl a0 (⟨⟨z32.2.2.1,z32.2.2.2.1,z32.2.2.2.2.1,z32.2.2.2.2.2.1,z32.2.2.2.2.2.2.1,z32.2.2.2.2.2.2.2.1,z32.2.2.2.2.2.2.2.2.1,z32.2.2.2.2.2.2.2.2.2⟩,z32.1,(IntKind.i64.wrap ((IntKind.i64.wrap (z32.2.1+1))+z32.2.2.2.1))⟩:Z7)).bind fun y43=>some (y43.1,y43.2)) | .inr z32=>some ((⟨⟨0,0,0,0,0,0,0,false⟩,0,0⟩:Z7),7))))
structure Zt where
 Kind:Int
 S:Int
 At:Int
 Data:Int
 Ptrs:Int
 Count:Int
 N:Int
noncomputable def Uh (a0:(List (List Int))) (a1:Int) (a2:Int):Option (Zt×Int) :=
 (Kl a0 a1 a2).bind fun y2=>cond (cond (y2.2 != 0) true (y2.1.P.Kind == 0)) (some ((⟨0,0,0,0,0,0,0⟩:Zt),y2.2)) (cond (y2.1.P.Kind == 1) (some ((⟨1,y2.1.Segment,y2.1.At,y2.1.P.Data,y2.1.P.Ptrs,0,0⟩:Zt),0)) (cond (decide (y2.1.P.Code < 7)) (some ((⟨(IntKind.i64.wrap (2+y2.1.P.Code)),y2.1.Segment,y2.1.At,0,0,y2.1.P.Count,0⟩:Zt),0)) ((Y2 a0 y2.1.Segment).bind fun x5=>(Y2 x5 y2.1.At).bind fun x6=>(Xl x6).bind fun y8=>cond (cond (cond (cond (x6 != 0) (y8.Kind != 1) false) true (decide (y8.Off < 0))) true (decide (y2.1.P.Count < (IntKind.i64.wrap (y8.Off * (IntKind.i64.wrap (y8.Data+y8.Ptrs))))))) (some ((⟨0,0,0,0,0,0,0⟩:Zt),8)) (some ((⟨9,y2.1.Segment,(IntKind.i64.wrap (y2.1.At+1)),y8.Data,y8.Ptrs,y8.Off,0⟩:Zt),0)))))
noncomputable def Qc (a0:Zt) (a1:(List (List Int))):Option (List Int) :=
 cond (a0.Kind == 10) (some ([a0.N]:List Int)) (cond (a0.Kind != 1) (some ([]:(List Int))) ((Y2 a1 a0.S).bind fun x4=>(Zjg x4 a0.At (IntKind.i64.wrap (a0.At+a0.Data))).bind fun l5=>(Zhd 8 ([]:List Int) l5).bind fun l6=>some l6))
noncomputable def Qn (a0:Zt):Option Int :=
 cond (a0.Kind == 1) (some a0.Ptrs) (some a0.Count)
noncomputable def Kj (a1:Int) (s0_:(Int×Int)):Option ((Int×Int) ⊕ Int) :=
 cond (decide (s0_.2 < (Int.tmod a1 64))) (some (.inl ((IntKind.u64.wrap (Int.tdiv s0_.1 2)),(IntKind.i64.wrap (s0_.2+1))))) (some (.inr s0_.1))
noncomputable def Za5 (a0:(List Int)) (a1:Int):Option Int :=
 cond (cond (decide (a1 < 0)) true (decide ((a0.length:Int)≤(IntKind.i64.wrap (Int.tdiv a1 64))))) (some 0) ((Y2 a0 (IntKind.i64.wrap (Int.tdiv a1 64))).bind fun x2=>(Zw (Kj a1) (x2,0)).bind fun (z4:Int)=>some (Int.tmod z4 2))
noncomputable def Kk (a0:(List Int)) (a2:Int) (y2:Int) (s0_:(Int×Int)):Option ((Int×Int) ⊕ Int) :=
 cond (decide (0≤s0_.2)) ((Za5 a0 (IntKind.i64.wrap ((IntKind.i64.wrap (a2 * y2))+s0_.2))).bind fun y3=>some (.inl ((IntKind.u64.wrap ((IntKind.u64.wrap (s0_.1 * 2))+y3)),(IntKind.i64.wrap (s0_.2 - 1))))) (some (.inr s0_.1))
noncomputable def Za6 (a0:(List Int)) (a1:Int) (a2:Int):Option Int :=
 (Xi a1).bind fun y2=>cond (cond (cond (decide (y2 < 1)) true (decide (a2 < 0))) true (decide (1099511627776 < a2))) (some 0) ((Zw (Kk a0 a2 y2) (0,(IntKind.i64.wrap (y2 - 1)))).bind fun (z5:Int)=>some z5)
noncomputable def Jx (a0:Zt) (a1:(List (List Int))) (a2:Int):Option (Zt×Int) :=
 (cond (decide (a2 < 0)) (some true) ((Qn a0).bind fun y4=>some (cond (decide (a2 < 0)) true (decide (y4≤a2))))).bind fun (z2:Bool)=>cond z2 (some ((⟨0,0,0,0,0,0,0⟩:Zt),0)) (cond (a0.Kind == 1) ((Uh a1 a0.S (IntKind.i64.wrap ((IntKind.i64.wrap (a0.At+a0.Data))+a2))).bind fun y7=>some (y7.1,y7.2)) (cond (a0.Kind == 8) ((Uh a1 a0.S (IntKind.i64.wrap (a0.At+a2))).bind fun y9=>some (y9.1,y9.2)) (cond (a0.Kind == 9) (some ((⟨1,a0.S,(IntKind.i64.wrap (a0.At+(IntKind.i64.wrap (a2 * (IntKind.i64.wrap (a0.Data+a0.Ptrs)))))),a0.Data,a0.Ptrs,0,0⟩:Zt),0)) ((Y2 a1 a0.S).bind fun x13=>(Zjg x13 a0.At (x13.length:Int)).bind fun l14=>(Za6 l14 (IntKind.i64.wrap (a0.Kind - 2)) a2).bind fun y15=>some ((⟨10,0,0,0,0,0,y15⟩:Zt),0)))))
noncomputable def Jq (Yk:((List (List Int))→Zt→Int→Int→Option (Zb×Int×Int))) (Xg:((List (List Int))→Zt→Int→Int→Option (Zb×Int×Int))) (a0:(List (List Int))) (a1:Zt) (a2:Int) (s0_:(Int×Int×(List Zb))):Option ((Int×Int×(List Zb)) ⊕ ((Int×Int×(List Zb)) ⊕ (Int×(List Zb)))) :=
 (Qn a1).bind fun y10=>cond (decide (s0_.2.1 < y10)) ((Jx a1 a0 s0_.2.1).bind fun y12=>cond (y12.2 != 0) (some (.inr (.inl (s0_.1,y12.2,s0_.2.2)))) ((Qc y12.1 a0).bind fun y14=>(cond (a1.Kind == 9) ((Xg a0 y12.1 (IntKind.i64.wrap (a2 - 2)) s0_.1).bind fun y16=>some (y16.2.1,y16.2.2,y16.1.Kind,y16.1.Words,y16.1.Kids)) (cond (cond (a1.Kind == 1) true (a1.Kind == 8)) ((Yk a0 y12.1 (IntKind.i64.wrap (a2 - 1)) s0_.1).bind fun y17=>some (y17.2.1,y17.2.2,y17.1.Kind,y17.1.Words,y17.1.Kids)) (some (s0_.1,y12.2,y12.1.Kind,y14,([]:(List Zb)))))).bind fun (z15:(Int×Int×Int×(List Int)×(List Zb)))=>cond (z15.2.1 != 0) (some (.inr (.inl (z15.1,z15.2.1,s0_.2.2)))) ((Zhd 56 s0_.2.2 ([(⟨z15.2.2.1,z15.2.2.2.1,z15.2.2.2.2⟩:Zb)]:List Zb)).bind fun l20=>some (.inl (z15.1,(IntKind.i64.wrap (s0_.2.1+1)),l20))))) (some (.inr (.inr (s0_.1,s0_.2.2))))
noncomputable def Jp (Yk:((List (List Int))→Zt→Int→Int→Option (Zb×Int×Int))) (Xg:((List (List Int))→Zt→Int→Int→Option (Zb×Int×Int))) (a0:(List (List Int))) (a1:Zt) (a2:Int) (a3:Int):Option (Zb×Int×Int) :=
 (Qc a1 a0).bind fun y2=>cond (a1.Kind == 0) (some ((⟨a1.Kind,y2,[]⟩:Zb),a3,0)) (cond (cond (decide (a2 < 1)) true (cond (cond (a1.Kind == 9) (decide (0 < a1.Count)) false) (decide (a2 < 2)) false)) (some ((⟨a1.Kind,y2,[]⟩:Zb),a3,3)) ((Qn a1).bind fun y4=>(cond (a1.Kind == 1) (some (IntKind.i64.wrap ((IntKind.i64.wrap (1+a1.Data))+a1.Ptrs))) (some (IntKind.i64.wrap (1+y4)))).bind fun (z5:Int)=>(cond (a1.Kind == 9) (some (IntKind.i64.wrap (1+(IntKind.i64.wrap (a1.Count * (IntKind.i64.wrap ((IntKind.i64.wrap (1+a1.Data))+a1.Ptrs))))))) (some z5)).bind fun (z7:Int)=>cond (decide (a3 < z7)) (some ((⟨a1.Kind,y2,[]⟩:Zb),a3,3)) ((Zw (Jq Yk Xg a0 a1 a2) ((IntKind.i64.wrap (a3 - z7)),0,([]:List Zb))).bind fun (z24:((Int×Int×(List Zb)) ⊕ (Int×(List Zb))))=>match z24 with | .inl z24=>some ((⟨a1.Kind,y2,z24.2.2⟩:Zb),z24.1,z24.2.1) | .inr z24=>some ((⟨a1.Kind,y2,z24.2⟩:Zb),z24.1,0))))
noncomputable def Vz (Yk:((List (List Int))→Zt→Int→Int→Option (Zb×Int×Int))) (a0:(List (List Int))) (a1:Zt) (a2:Int) (s0_:(Int×Int×(List Zb))):Option ((Int×Int×(List Zb)) ⊕ ((Int×Int×(List Zb)) ⊕ (Int×(List Zb)))) :=
 cond (decide (s0_.2.1 < a1.Ptrs)) ((Jx a1 a0 s0_.2.1).bind fun y4=>cond (y4.2 != 0) (some (.inr (.inl (s0_.1,y4.2,s0_.2.2)))) ((Yk a0 y4.1 a2 s0_.1).bind fun y6=>cond (y6.2.2 != 0) (some (.inr (.inl (y6.2.1,y6.2.2,s0_.2.2)))) ((Zhd 56 s0_.2.2 ([y6.1]:List Zb)).bind fun l7=>some (.inl (y6.2.1,(IntKind.i64.wrap (s0_.2.1+1)),l7))))) (some (.inr (.inr (s0_.1,s0_.2.2))))
noncomputable def V7 (Yk:((List (List Int))→Zt→Int→Int→Option (Zb×Int×Int))) (Xg:((List (List Int))→Zt→Int→Int→Option (Zb×Int×Int))) (a0:(List (List Int))) (a1:Zt) (a2:Int) (a3:Int):Option (Zb×Int×Int) :=
 (Qc a1 a0).bind fun y2=>(Zw (Vz Yk a0 a1 a2) (a3,0,([]:List Zb))).bind fun (z11:((Int×Int×(List Zb)) ⊕ (Int×(List Zb))))=>match z11 with | .inl z11=>some ((⟨1,y2,z11.2.2⟩:Zb),z11.1,z11.2.1) | .inr z11=>some ((⟨1,y2,z11.2⟩:Zb),z11.1,0)
noncomputable def Ys:Nat→(((List (List Int))→Zt→Int→Int→Option (Zb×Int×Int))×((List (List Int))→Zt→Int→Int→Option (Zb×Int×Int)))
 | 0=>((fun _ _ _ _=>none),(fun _ _ _ _=>none))
 | k+1=>(Jp ((Ys k).1) ((Ys k).2),V7 ((Ys k).1) ((Ys k).2))
noncomputable def Zc4 (a0:(List (List Int))) (a1:Zt) (a2:Int) (a3:Int):Option (Zb×Int×Int):=lim fun k=>(Ys k).1 a0 a1 a2 a3
noncomputable def Km (a0:(List (List Int))) (a1:Ya):Option (Zb×Int×Int) :=
 (Un a1).bind fun y2=>(Uh a0 0 0).bind fun y4=>cond (y4.2 != 0) (some ((⟨0,[],[]⟩:Zb),0,y4.2)) ((Zc4 a0 y4.1 y2.Depth y2.Weight).bind fun y6=>cond (y6.2.2 != 0) (some ((⟨0,[],[]⟩:Zb),0,y6.2.2)) (some (y6.1,(IntKind.i64.wrap (y2.Weight - y6.2.1)),0)))
noncomputable def Xp (a0:List Int):Option (List Int) :=
 Zhd 8 ([]:List Int) a0
noncomputable def Uz (a0:(List (List Int))) (s0_:(Int×(List (List Int)))):Option ((Int×(List (List Int))) ⊕ (List (List Int))) :=
 cond (decide (s0_.1 < (a0.length:Int))) ((Y2 a0 s0_.1).bind fun x4=>(Xp x4).bind fun y5=>(Y2 s0_.2 s0_.1).bind fun x6=>some (.inl ((IntKind.i64.wrap (s0_.1+1)),(Xu s0_.2 s0_.1 y5)))) (some (.inr s0_.2))
noncomputable def Zdq (a0:(List (List Int))):Option (List (List Int)) :=
 (Zfn 24 (a0.length:Int) ([]:(List Int))).bind fun l2=>(Zw (Uz a0) (0,l2)).bind fun (z9:(List (List Int)))=>some z9
structure Zj where
 segments:(List (List Int))
 size:Int
 left:Int
noncomputable def Zd0 (a0:(List (List Int))):Option (Option Zj) :=
 (Zdq a0).bind fun y2=>some (some (⟨y2,0,0⟩:Zj))
noncomputable def Zcm (a0:(Option Zj)):Option Int :=
 cond (Option.isNone a0) (some 0) ((a0).bind fun x4=>some (x4.segments.length:Int))
noncomputable def Ki (a0:(Option Zj)) (a1:Int):Option Bool :=
 (cond (decide (0≤a1)) ((Zcm a0).bind fun y4=>some (cond (decide (0≤a1)) (decide (a1 < y4)) false)) (some false)).bind fun (z2:Bool)=>some z2
noncomputable def Vd (a0:(Option Zj)) (a1:Int):Option Int :=
 (Ki a0 a1).bind fun y2=>cond (!y2) (some 0) ((a0).bind fun x5=>(Y2 x5.segments a1).bind fun x6=>some (x6.length:Int))
noncomputable def J9 (a0:(Option Zj)) (a1:Int) (a2:Int) (a3:Int):Option Bool :=
 ((Ki a0 a1).bind fun y8=>cond y8 (cond (decide (0≤a2)) (cond (decide (0≤a3)) ((Vd a0 a1).bind fun y9=>cond (decide (a3≤y9)) ((Vd a0 a1).bind fun y10=>some (cond (cond (cond (cond y8 (decide (0≤a2)) false) (decide (0≤a3)) false) (decide (a3≤y9)) false) (decide (a2≤(IntKind.i64.wrap (y10 - a3)))) false)) (some false)) (some false)) (some false)) (some false)).bind fun (z4:Bool)=>some z4
noncomputable def Qq (a0:(Option Zj)) (a1:Int) (a2:Int):Option (Int×Bool) :=
 (J9 a0 a1 a2 1).bind fun y2=>cond (!y2) (some (0,false)) ((a0).bind fun x6=>(Y2 x6.segments a1).bind fun x7=>(Y2 x7 a2).bind fun x8=>some (x8,true))
noncomputable def Gd (a0:(Option Zj)) (a1:Int) (a2:Int) (a3:Int):Option ((List Int)×Bool) :=
 (J9 a0 a1 a2 a3).bind fun y2=>cond (!y2) (some (([]:(List Int)),false)) ((a0).bind fun x7=>(Y2 x7.segments a1).bind fun x8=>(Zjg x8 a2 (IntKind.i64.wrap (a2+a3))).bind fun l9=>(Xp l9).bind fun y10=>some (y10,true))
structure Xw where
 P:Zs
 Segment:Int
 At:Int
noncomputable def Zbv (a0:(Option Zj)) (a1:Zs) (a2:Int) (a3:Int):Option (Xw×Int) :=
 cond (a1.Kind == 4) (some ((⟨⟨0,0,0,0,0,0,0,false⟩,0,0⟩:Xw),9)) ((Yt a1).bind fun y2=>cond (!y2.2) (some ((⟨⟨0,0,0,0,0,0,0,false⟩,0,0⟩:Xw),8)) ((J9 a0 a2 a3 y2.1).bind fun y4=>cond (!y4) (some ((⟨⟨0,0,0,0,0,0,0,false⟩,0,0⟩:Xw),7)) (some ((⟨⟨a1.Kind,0,a1.Data,a1.Ptrs,a1.Code,a1.Count,a1.Segment,a1.Double⟩,a2,a3⟩:Xw),0))))
noncomputable def Ze5 (a0:(Option Zj)) (a1:Int) (a2:Int):Option (Xw×Int) :=
 (Gd a0 a1 a2 2).bind fun y2=>cond (!y2.2) (some ((⟨⟨0,0,0,0,0,0,0,false⟩,0,0⟩:Xw),7)) ((Y2 y2.1 0).bind fun x3=>(Kb x3).bind fun y4=>(Y2 y2.1 1).bind fun x5=>(Kb x5).bind fun y6=>cond (cond (y4.Kind != 3) true y4.Double) (some ((⟨⟨0,0,0,0,0,0,0,false⟩,0,0⟩:Xw),8)) (cond (cond (y6.Kind != 4) (y6.Off != 0) false) (some ((⟨⟨0,0,0,0,0,0,0,false⟩,0,0⟩:Xw),8)) ((Zbv a0 y6 y4.Segment y4.Off).bind fun y8=>some (y8.1,y8.2))))
noncomputable def Ze6 (a0:(Option Zj)) (a1:Int) (a2:Int):Option (Xw×Int) :=
 (Qq a0 a1 a2).bind fun y2=>cond (!y2.2) (some ((⟨⟨0,0,0,0,0,0,0,false⟩,0,0⟩:Xw),7)) ((Kb y2.1).bind fun y4=>(Zbv a0 y4 a1 (IntKind.i64.wrap ((IntKind.i64.wrap (a2+1))+y4.Off))).bind fun y6=>some (y6.1,y6.2))
noncomputable def Ze4 (a0:(Option Zj)) (a1:Int) (a2:Int):Option (Xw×Int) :=
 (Qq a0 a1 a2).bind fun y2=>cond (!y2.2) (some ((⟨⟨0,0,0,0,0,0,0,false⟩,0,0⟩:Xw),7)) ((Kb y2.1).bind fun y4=>cond (y4.Kind == 0) (some ((⟨⟨0,0,0,0,0,0,0,false⟩,0,0⟩:Xw),0)) (cond (cond (y4.Kind == 3) y4.Double false) ((Ze5 a0 y4.Segment y4.Off).bind fun y6=>some (y6.1,y6.2)) (cond (y4.Kind == 3) ((Ze6 a0 y4.Segment y4.Off).bind fun y8=>some (y8.1,y8.2)) ((Zbv a0 y4 a1 (IntKind.i64.wrap ((IntKind.i64.wrap (a2+1))+y4.Off))).bind fun y10=>some (y10.1,y10.2)))))
structure Za where
 a:(Option Zj)
 kind:Int
 segment:Int
 at_:Int
 words:Int
 ptrs:Int
 count:Int
 code:Int
 index:Int
noncomputable def Zbw (a0:Za):Option (Za×Int) :=
 (Qq a0.a a0.segment a0.at_).bind fun y2=>(Kb y2.1).bind fun y4=>cond (cond (cond (cond (y4.Kind != 0) (y4.Kind != 1) false) true (decide (y4.Off < 0))) true (decide (a0.count < (IntKind.i64.wrap (y4.Off * (IntKind.i64.wrap (y4.Data+y4.Ptrs))))))) (some ((⟨(none:(Option Zj)),0,0,0,0,0,0,0,0⟩:Za),8)) (some ((⟨a0.a,a0.kind,a0.segment,a0.at_,y4.Data,y4.Ptrs,y4.Off,a0.code,a0.index⟩:Za),0))
noncomputable def Zc6 (a0:(Option Zj)) (a1:Int) (a2:Int):Option (Za×Int) :=
 (Ze4 a0 a1 a2).bind fun y2=>cond (cond (y2.2 != 0) true (y2.1.P.Kind == 0)) (some ((⟨(none:(Option Zj)),0,0,0,0,0,0,0,0⟩:Za),y2.2)) (cond (y2.1.P.Kind == 1) (some ((⟨a0,1,y2.1.Segment,y2.1.At,y2.1.P.Data,y2.1.P.Ptrs,0,0,0⟩:Za),0)) (cond (y2.1.P.Code == 7) ((Zbw (⟨a0,(IntKind.i64.wrap (y2.1.P.Code+2)),y2.1.Segment,y2.1.At,0,0,y2.1.P.Count,0,0⟩:Za)).bind fun y4=>some (y4.1,y4.2)) (some ((⟨a0,(IntKind.i64.wrap (y2.1.P.Code+2)),y2.1.Segment,y2.1.At,0,0,y2.1.P.Count,0,0⟩:Za),0))))
noncomputable def Zas (a0:(Option Zj)):Option (Za×Int) :=
 (Zc6 a0 0 0).bind fun y2=>some (y2.1,y2.2)
noncomputable def Z0 (a0:Za):Option Int :=
 some a0.kind
structure Ze where
 left:Int
noncomputable def Yu (a0:Ze) (a1:Int):Option (Int×Ze) :=
 cond (decide (a0.left < a1)) (some (3,a0)) (some (0,(⟨(IntKind.i64.wrap (a0.left - a1))⟩:Ze)))
noncomputable def Yf (a0:Za):Option Int :=
 cond (a0.kind == 1) (some a0.ptrs) (some a0.count)
noncomputable def Xo (a0:Za) (a1:Int):Option (Za×Int) :=
 (cond (decide (a1 < 0)) (some true) ((Yf a0).bind fun y4=>some (cond (decide (a1 < 0)) true (decide (y4≤a1))))).bind fun (z2:Bool)=>cond z2 (some ((⟨(none:(Option Zj)),0,0,0,0,0,0,0,0⟩:Za),0)) (cond (a0.kind == 1) ((Zc6 a0.a a0.segment (IntKind.i64.wrap ((IntKind.i64.wrap (a0.at_+a0.words))+a1))).bind fun y7=>some (y7.1,y7.2)) (cond (a0.kind == 8) ((Zc6 a0.a a0.segment (IntKind.i64.wrap (a0.at_+a1))).bind fun y9=>some (y9.1,y9.2)) (cond (a0.kind == 9) (some ((⟨a0.a,1,a0.segment,(IntKind.i64.wrap ((IntKind.i64.wrap (a0.at_+1))+(IntKind.i64.wrap (a1 * (IntKind.i64.wrap (a0.words+a0.ptrs)))))),a0.words,a0.ptrs,0,0,0⟩:Za),0)) (some ((⟨a0.a,10,a0.segment,a0.at_,0,0,0,(IntKind.i64.wrap (a0.kind - 2)),a1⟩:Za),0)))))
noncomputable def Za8 (a0:Za) (s0_:Int):Option (Int ⊕ ((Int×Int) ⊕ Unit)) :=
 cond (decide (0 < s0_)) ((Xo a0 (IntKind.i64.wrap (s0_ - 1))).bind fun y4=>(cond (y4.2 != 0) (some true) ((Z0 y4.1).bind fun y8=>some (cond (y4.2 != 0) true (y8 != 0)))).bind fun (z6:Bool)=>cond z6 (some (.inr (.inl (s0_,y4.2)))) (some (.inl (IntKind.i64.wrap (s0_ - 1))))) (some (.inr (.inr ())))
noncomputable def Zbi (a0:Za):Option (Int×Int) :=
 (Yf a0).bind fun y2=>(Zw (Za8 a0) y2).bind fun (z12:((Int×Int) ⊕ Unit))=>match z12 with | .inl z12=>some (z12.1,z12.2) | .inr z12=>some (0,0)
noncomputable def Vh (a0:Za):Option Int :=
 cond (a0.kind == 1) (some a0.words) (cond (a0.kind == 10) (some 1) (some 0))
noncomputable def Ziy (a0:(List Int)) (a1:Int) (a2:Int):Option Int :=
 (Q3 a1).bind fun y2=>cond (cond (y2.1 == 0) true (decide (a2 < 0))) (some 0) ((Xe (y2.1≠0)).bind fun u4=>(Xe ((IntKind.i64.wrap (Int.tdiv 64 y2.1))≠0)).bind fun u6=>cond (decide ((a0.length:Int)≤(IntKind.i64.wrap (Int.tdiv a2 (IntKind.i64.wrap (Int.tdiv 64 y2.1)))))) (some 0) ((Xe ((IntKind.i64.wrap (Int.tdiv 64 y2.1))≠0)).bind fun u12=>(Y2 a0 (IntKind.i64.wrap (Int.tdiv a2 (IntKind.i64.wrap (Int.tdiv 64 y2.1))))).bind fun x13=>(Xe ((IntKind.i64.wrap (Int.tdiv 64 y2.1))≠0)).bind fun u14=>(Xe (0≤(IntKind.i64.wrap ((Int.tmod a2 (IntKind.i64.wrap (Int.tdiv 64 y2.1))) * y2.1)))).bind fun u15=>(Xe (0≤y2.1)).bind fun u16=>some (IntKind.u64.wrap (Zc1 .u64 (Int.fdiv x13 (2 ^ min (Int.toNat (IntKind.i64.wrap ((Int.tmod a2 (IntKind.i64.wrap (Int.tdiv 64 y2.1))) * y2.1))) 64)) (IntKind.u64.wrap ((IntKind.u64.wrap (1 * 2 ^ min (Int.toNat y2.1) 64)) - 1))))))
noncomputable def Uq (a0:Za):Option Int :=
 (Q3 a0.code).bind fun y2=>cond (y2.1 == 0) (some 0) ((Xe (y2.1≠0)).bind fun u4=>(Xe ((IntKind.i64.wrap (Int.tdiv 64 y2.1))≠0)).bind fun u7=>(Qq a0.a a0.segment (IntKind.i64.wrap (a0.at_+(IntKind.i64.wrap (Int.tdiv a0.index (IntKind.i64.wrap (Int.tdiv 64 y2.1))))))).bind fun y8=>(Xe ((IntKind.i64.wrap (Int.tdiv 64 y2.1))≠0)).bind fun u11=>(Ziy ([y8.1]:List Int) a0.code (Int.tmod a0.index (IntKind.i64.wrap (Int.tdiv 64 y2.1)))).bind fun y12=>some y12)
noncomputable def Q9 (a0:Za) (a1:Int):Option Int :=
 (cond (decide (a1 < 0)) (some true) ((Vh a0).bind fun y4=>some (cond (decide (a1 < 0)) true (decide (y4≤a1))))).bind fun (z2:Bool)=>cond z2 (some 0) (cond (a0.kind == 10) ((Uq a0).bind fun y7=>some y7) ((Qq a0.a a0.segment (IntKind.i64.wrap (a0.at_+a1))).bind fun y9=>some y9.1))
noncomputable def Zc5 (a0:Za) (s0_:Int):Option (Int ⊕ Int) :=
 (cond (decide (0 < s0_)) ((Q9 a0 (IntKind.i64.wrap (s0_ - 1))).bind fun y6=>some (cond (decide (0 < s0_)) (y6 == 0) false)) (some false)).bind fun (z4:Bool)=>cond z4 (some (.inl (IntKind.i64.wrap (s0_ - 1)))) (some (.inr s0_))
noncomputable def Uv (a0:Za):Option Int :=
 (Vh a0).bind fun y2=>(Zw (Zc5 a0) y2).bind fun (z9:Int)=>some z9
noncomputable def Gi (a0:Za):Option (Int×Int) :=
 cond (a0.kind != 9) (some (0,0)) (some (a0.words,a0.ptrs))
noncomputable def Zb4 (a0:Za) (y4:Int) (s0_:(Int×Int×Int)):Option ((Int×Int×Int) ⊕ (Int ⊕ (Int×Int))) :=
 cond (decide (s0_.2.2 < y4)) ((Xo a0 s0_.2.2).bind fun y6=>(Zbi y6.1).bind fun y8=>cond (y8.2 != 0) (some (.inr (.inl y8.2))) ((Uv y6.1).bind fun y9=>some (.inl ((if s0_.1 < y9 then y9 else s0_.1),(if s0_.2.1 < y8.1 then y8.1 else s0_.2.1),(IntKind.i64.wrap (s0_.2.2+1)))))) (some (.inr (.inr (s0_.1,s0_.2.1))))
noncomputable def Zbt (a0:Za):Option (Int×Int×Int) :=
 (Gi a0).bind fun y2=>cond ((IntKind.i64.wrap (y2.1+y2.2)) == 0) (some (0,0,0)) ((Yf a0).bind fun y4=>(Zw (Zb4 a0 y4) (0,0,0)).bind fun (z12:(Int ⊕ (Int×Int)))=>match z12 with | .inl z12=>some (0,0,z12) | .inr z12=>some (z12.1,z12.2,0))
noncomputable def Xs (Yq:(Ze→Za→Option (Int×Ze))) (Ym:(Ze→Za→Int→Option (Int×Ze))) (Yr:(Ze→Za→Option (Int×Ze))) (a0:Ze) (a1:Za):Option (Int×Ze) :=
 (Z0 a1).bind fun y2=>cond (y2 == 0) (some (0,a0)) (cond (y2 == 1) ((Zbi a1).bind fun y4=>cond (y4.2 != 0) (some (y4.2,a0)) ((Uv a1).bind fun y7=>(Yu a0 (IntKind.i64.wrap (y7+y4.1))).bind fun y8=>cond (y8.1 != 0) (some (y8.1,y8.2)) ((Ym y8.2 a1 y4.1).bind fun y10=>some (y10.1,y10.2)))) (cond (y2 == 8) ((Yf a1).bind fun y15=>(Yu a0 y15).bind fun y16=>cond (y16.1 != 0) (some (y16.1,y16.2)) ((Yf a1).bind fun y19=>(Ym y16.2 a1 y19).bind fun y20=>some (y20.1,y20.2))) (cond (y2 == 9) ((Yr a0 a1).bind fun y23=>some (y23.1,y23.2)) ((Z0 a1).bind fun y28=>(Yf a1).bind fun y29=>(Zc7 (IntKind.i64.wrap (y28 - 2)) y29).bind fun y30=>(Yu a0 y30).bind fun y31=>some (y31.1,y31.2)))))
noncomputable def Jt (Yq:(Ze→Za→Option (Int×Ze))) (a1:Za) (a2:Int) (s0_:(Int×Int)):Option ((Int×Int) ⊕ ((Int×Int) ⊕ Int)) :=
 cond (decide (s0_.1 < a2)) ((Xo a1 s0_.1).bind fun y2=>cond (y2.2 != 0) (some (.inr (.inl (y2.2,s0_.2)))) ((Yq (⟨s0_.2⟩:Ze) y2.1).bind fun y4=>cond (y4.1 != 0) (some (.inr (.inl (y4.1,y4.2.left)))) (some (.inl ((IntKind.i64.wrap (s0_.1+1)),y4.2.left))))) (some (.inr (.inr s0_.2)))
noncomputable def X4 (Yq:(Ze→Za→Option (Int×Ze))) (Ym:(Ze→Za→Int→Option (Int×Ze))) (Yr:(Ze→Za→Option (Int×Ze))) (a0:Ze) (a1:Za) (a2:Int):Option (Int×Ze) :=
 (Zw (Jt Yq a1 a2) (0,a0.left)).bind fun (z8:((Int×Int) ⊕ Int))=>match z8 with | .inl z8=>some (z8.1,(⟨z8.2⟩:Ze)) | .inr z8=>some (0,(⟨z8⟩:Ze))
noncomputable def Ju (Ym:(Ze→Za→Int→Option (Int×Ze))) (a1:Za) (y8:Int) (s0_:(Int×Int)):Option ((Int×Int) ⊕ ((Int×Int) ⊕ Int)) :=
 cond (decide (s0_.1 < y8)) ((Xo a1 s0_.1).bind fun y10=>(Yf y10.1).bind fun y13=>(Ym (⟨s0_.2⟩:Ze) y10.1 y13).bind fun y14=>cond (y14.1 != 0) (some (.inr (.inl (y14.1,y14.2.left)))) (some (.inl ((IntKind.i64.wrap (s0_.1+1)),y14.2.left)))) (some (.inr (.inr s0_.2)))
noncomputable def X5 (Yq:(Ze→Za→Option (Int×Ze))) (Ym:(Ze→Za→Int→Option (Int×Ze))) (Yr:(Ze→Za→Option (Int×Ze))) (a0:Ze) (a1:Za):Option (Int×Ze) :=
 (Zbt a1).bind fun y2=>cond (y2.2.2 != 0) (some (y2.2.2,a0)) ((Yf a1).bind fun y5=>(Yu a0 (IntKind.i64.wrap (1+(IntKind.i64.wrap (y5 * (IntKind.i64.wrap (y2.1+y2.2.1))))))).bind fun y6=>cond (cond (y6.1 != 0) true (y2.2.1 == 0)) (some (y6.1,y6.2)) ((Yf a1).bind fun y8=>(Zw (Ju Ym a1 y8) (0,y6.2.left)).bind fun (z17:((Int×Int) ⊕ Int))=>match z17 with | .inl z17=>some (z17.1,(⟨z17.2⟩:Ze)) | .inr z17=>some (0,(⟨z17⟩:Ze))))
noncomputable def Zk:Nat→((Ze→Za→Option (Int×Ze))×(Ze→Za→Int→Option (Int×Ze))×(Ze→Za→Option (Int×Ze)))
 | 0=>((fun _ _=>none),(fun _ _ _=>none),(fun _ _=>none))
 | k+1=>(Xs ((Zk k).1) ((Zk k).2.1) ((Zk k).2.2),X4 ((Zk k).1) ((Zk k).2.1) ((Zk k).2.2),X5 ((Zk k).1) ((Zk k).2.1) ((Zk k).2.2))
noncomputable def Gh (a0:Ze) (a1:Za):Option (Int×Ze):=lim fun k=>(Zk k).1 a0 a1
noncomputable def Ji (a0:Za):Option Zs :=
 (Z0 a0).bind fun y2=>cond (y2 == 1) ((Zbi a0).bind fun y4=>(Uv a0).bind fun y6=>some (⟨1,0,y6,y4.1,0,0,0,false⟩:Zs)) (cond (y2 == 9) ((Zbt a0).bind fun y8=>(Yf a0).bind fun y10=>some (⟨2,0,0,0,7,(IntKind.i64.wrap (y10 * (IntKind.i64.wrap (y8.1+y8.2.1)))),0,false⟩:Zs)) ((Z0 a0).bind fun y13=>(Yf a0).bind fun y14=>some (⟨2,0,0,0,(IntKind.i64.wrap (y13 - 2)),y14,0,false⟩:Zs)))
structure Zd where
 words:(List Int)
 next:Int
noncomputable def X8 (a1:Int) (a2:Za) (a3:Int) (s0_:(Int×(List Int))):Option ((Int×(List Int)) ⊕ (List Int)) :=
 cond (decide (s0_.1 < a3)) ((Q9 a2 s0_.1).bind fun y1=>(Y2 s0_.2 (IntKind.i64.wrap (a1+s0_.1))).bind fun x2=>some (.inl ((IntKind.i64.wrap (s0_.1+1)),(Xu s0_.2 (IntKind.i64.wrap (a1+s0_.1)) y1)))) (some (.inr s0_.2))
noncomputable def Q8 (a0:Zd) (a1:Int) (a2:Za) (a3:Int):Option Zd :=
 (Zw (X8 a1 a2 a3) (0,a0.words)).bind fun (z5:(List Int))=>some (⟨z5,a0.next⟩:Zd)
noncomputable def Jy (a2:Za) (y2:Int) (s0_:(Int×(List Int))):Option ((Int×(List Int)) ⊕ (List Int)) :=
 cond (decide (s0_.1 < y2)) ((Xo a2 s0_.1).bind fun y4=>(Q9 y4.1 0).bind fun y5=>(Zhd 8 s0_.2 ([y5]:List Int)).bind fun l6=>some (.inl ((IntKind.i64.wrap (s0_.1+1)),l6))) (some (.inr s0_.2))
noncomputable def V4 (a0:Zd) (a1:Int) (a2:Za):Option Zd :=
 (Yf a2).bind fun y2=>(Zw (Jy a2 y2) (0,([]:List Int))).bind fun (z8:(List Int))=>(Z0 a2).bind fun y12=>(Zd2 (IntKind.i64.wrap (y12 - 2)) z8).bind fun y13=>(Xe (0 < List.length a0.words∧0≤a1∧a1≤(List.length a0.words:Int))).bind fun u14=>some (⟨(Zjj a0.words a1 y13.1),a0.next⟩:Zd)
noncomputable def Qw (Yc:(Zd→Int→Za→Option Zd)) (Z8:(Zd→Int→Zs→Za→Option Zd)) (Zz:(Zd→Int→Za→Int→Option Zd)) (Z9:(Zd→Int→Za→Option Zd)) (a0:Zd) (a1:Int) (a2:Za):Option Zd :=
 (Z0 a2).bind fun y2=>cond (y2 == 0) (some (⟨a0.words,a0.next⟩:Zd)) ((Ji a2).bind fun y4=>(Yt y4).bind fun y6=>(cond (cond (y4.Kind == 1) (y6.1 == 0) false) (some (-1)) (some (IntKind.i64.wrap ((IntKind.i64.wrap (a0.next - a1)) - 1)))).bind fun (z7:Int)=>(Qd (⟨y4.Kind,z7,y4.Data,y4.Ptrs,y4.Code,y4.Count,y4.Segment,y4.Double⟩:Zs)).bind fun y12=>(Y2 a0.words a1).bind fun x13=>(Z8 (⟨(Xu a0.words a1 y12.1),(IntKind.i64.wrap (a0.next+y6.1))⟩:Zd) a0.next (⟨y4.Kind,z7,y4.Data,y4.Ptrs,y4.Code,y4.Count,y4.Segment,y4.Double⟩:Zs) a2).bind fun y15=>some (⟨y15.words,y15.next⟩:Zd))
noncomputable def Xc (Yc:(Zd→Int→Za→Option Zd)) (Z8:(Zd→Int→Zs→Za→Option Zd)) (Zz:(Zd→Int→Za→Int→Option Zd)) (Z9:(Zd→Int→Za→Option Zd)) (a0:Zd) (a1:Int) (a2:Zs) (a3:Za):Option Zd :=
 (Z0 a3).bind fun y2=>cond (y2 == 1) ((Q8 (⟨a0.words,a0.next⟩:Zd) a1 a3 a2.Data).bind fun y4=>(Zz (⟨y4.words,y4.next⟩:Zd) (IntKind.i64.wrap (a1+a2.Data)) a3 a2.Ptrs).bind fun y5=>some (⟨y5.words,y5.next⟩:Zd)) (cond (y2 == 8) ((Zz (⟨a0.words,a0.next⟩:Zd) a1 a3 a2.Count).bind fun y6=>some (⟨y6.words,y6.next⟩:Zd)) (cond (y2 == 9) ((Z9 (⟨a0.words,a0.next⟩:Zd) a1 a3).bind fun y7=>some (⟨y7.words,y7.next⟩:Zd)) (cond (y2 == 2) (some (⟨a0.words,a0.next⟩:Zd)) ((V4 (⟨a0.words,a0.next⟩:Zd) a1 a3).bind fun y8=>some (⟨y8.words,y8.next⟩:Zd)))))
noncomputable def Qh (Yc:(Zd→Int→Za→Option Zd)) (a1:Int) (a2:Za) (a3:Int) (s0_:(Int×(List Int)×Int)):Option ((Int×(List Int)×Int) ⊕ ((List Int)×Int)) :=
 cond (decide (s0_.1 < a3)) ((Xo a2 s0_.1).bind fun y2=>(Yc (⟨s0_.2.1,s0_.2.2⟩:Zd) (IntKind.i64.wrap (a1+s0_.1)) y2.1).bind fun y3=>some (.inl ((IntKind.i64.wrap (s0_.1+1)),y3.words,y3.next))) (some (.inr (s0_.2.1,s0_.2.2)))
noncomputable def Qm (Yc:(Zd→Int→Za→Option Zd)) (Z8:(Zd→Int→Zs→Za→Option Zd)) (Zz:(Zd→Int→Za→Int→Option Zd)) (Z9:(Zd→Int→Za→Option Zd)) (a0:Zd) (a1:Int) (a2:Za) (a3:Int):Option Zd :=
 (Zw (Qh Yc a1 a2 a3) (0,a0.words,a0.next)).bind fun (z5:((List Int)×Int))=>some (⟨z5.1,z5.2⟩:Zd)
noncomputable def Jr (a1:Int) (a2:Za) (y2:(Int×Int×Int)) (y12:Int) (s0_:(Int×(List Int)×Int)):Option ((Int×(List Int)×Int) ⊕ ((List Int)×Int)) :=
 cond (decide (s0_.1 < y12)) ((Xo a2 s0_.1).bind fun y14=>(Uv y14.1).bind fun y15=>(Q8 (⟨s0_.2.1,s0_.2.2⟩:Zd) (IntKind.i64.wrap ((IntKind.i64.wrap (a1+1))+(IntKind.i64.wrap (s0_.1 * (IntKind.i64.wrap (y2.1+y2.2.1)))))) y14.1 y15).bind fun y16=>some (.inl ((IntKind.i64.wrap (s0_.1+1)),y16.words,y16.next))) (some (.inr (s0_.2.1,s0_.2.2)))
noncomputable def Js (Zz:(Zd→Int→Za→Int→Option Zd)) (a1:Int) (a2:Za) (y2:(Int×Int×Int)) (y20:Int) (s1_:(Int×(List Int)×Int)):Option ((Int×(List Int)×Int) ⊕ ((List Int)×Int)) :=
 cond (decide (s1_.1 < y20)) ((Xo a2 s1_.1).bind fun y22=>(Yf y22.1).bind fun y23=>(Zz (⟨s1_.2.1,s1_.2.2⟩:Zd) (IntKind.i64.wrap ((IntKind.i64.wrap ((IntKind.i64.wrap (a1+1))+(IntKind.i64.wrap (s1_.1 * (IntKind.i64.wrap (y2.1+y2.2.1))))))+y2.1)) y22.1 (if y23 < y2.2.1 then y23 else y2.2.1)).bind fun y24=>some (.inl ((IntKind.i64.wrap (s1_.1+1)),y24.words,y24.next))) (some (.inr (s1_.2.1,s1_.2.2)))
noncomputable def V0 (Yc:(Zd→Int→Za→Option Zd)) (Z8:(Zd→Int→Zs→Za→Option Zd)) (Zz:(Zd→Int→Za→Int→Option Zd)) (Z9:(Zd→Int→Za→Option Zd)) (a0:Zd) (a1:Int) (a2:Za):Option Zd :=
 (Zbt a2).bind fun y2=>((Yf a2).bind fun y5=>cond (decide (0 < y5)) ((Yf a2).bind fun y6=>(Qd (⟨1,y6,y2.1,y2.2.1,0,0,0,false⟩:Zs)).bind fun y7=>(Y2 a0.words a1).bind fun x8=>some (Xu a0.words a1 y7.1)) (some a0.words)).bind fun (z3:(List Int))=>(Yf a2).bind fun y12=>(Zw (Jr a1 a2 y2 y12) (0,z3,a0.next)).bind fun (z18:((List Int)×Int))=>(Yf a2).bind fun y20=>(Zw (Js Zz a1 a2 y2 y20) (0,z18.1,z18.2)).bind fun (z26:((List Int)×Int))=>some (⟨z26.1,z26.2⟩:Zd)
noncomputable def Zg:Nat→((Zd→Int→Za→Option Zd)×(Zd→Int→Zs→Za→Option Zd)×(Zd→Int→Za→Int→Option Zd)×(Zd→Int→Za→Option Zd))
 | 0=>((fun _ _ _=>none),(fun _ _ _ _=>none),(fun _ _ _ _=>none),(fun _ _ _=>none))
 | k+1=>(Qw ((Zg k).1) ((Zg k).2.1) ((Zg k).2.2.1) ((Zg k).2.2.2),Xc ((Zg k).1) ((Zg k).2.1) ((Zg k).2.2.1) ((Zg k).2.2.2),Qm ((Zg k).1) ((Zg k).2.1) ((Zg k).2.2.1) ((Zg k).2.2.2),V0 ((Zg k).1) ((Zg k).2.1) ((Zg k).2.2.1) ((Zg k).2.2.2))
noncomputable def Zbu (a0:Zd) (a1:Int) (a2:Za):Option Zd:=lim fun k=>(Zg k).1 a0 a1 a2
noncomputable def Zag (a0:Za) (a1:Int):Option ((List Int)×Int) :=
 (Z0 a0).bind fun y2=>cond (y2 == 10) (some (([]:(List Int)),10)) ((Yu (⟨(if 131072 < a1 then 131072 else a1)⟩:Ze) 1).bind fun y4=>cond (y4.1 != 0) (some (([]:(List Int)),y4.1)) ((Gh y4.2 a0).bind fun y6=>cond (y6.1 != 0) (some (([]:(List Int)),y6.1)) ((Zfn 8 (IntKind.i64.wrap ((if 131072 < a1 then 131072 else a1) - y6.2.left)) (0:Int)).bind fun l8=>(Zbu (⟨l8,1⟩:Zd) 0 a0).bind fun y10=>some (y10.words,0))))
noncomputable def Ve :Option Bool :=
 (Zd0 ([([8589934592,7,0]:List Int)]:List (List Int))).bind fun y3=>(Zas y3).bind fun y4=>(Zag y4.1 2).bind fun y6=>(cond (y4.2 == 0) (cond (y6.2 == 0) ((Q7 y6.1 ([4294967296,7]:List Int)).bind fun y12=>cond y12 ((Uv y4.1).bind fun y13=>some (cond (cond (cond (y4.2 == 0) (y6.2 == 0) false) y12 false) (y13 == 1) false)) (some false)) (some false)) (some false)).bind fun (z9:Bool)=>some z9
noncomputable def Us (a0:(List (List Int))) (a1:Ya) (a2:Int):Option Bool :=
 (Ge a1).bind fun y2=>(Km a0 y2).bind fun y4=>cond (y4.2.2 != 0) ((Ve).bind fun y6=>some y6) ((Zd0 a0).bind fun y9=>(Zas y9).bind fun y10=>(Zag y10.1 a2).bind fun y12=>(Uo y4.1 a2).bind fun y14=>cond (cond (cond (y10.2 != 0) true (y14.2 != (y12.2 == 0))) true (cond (!y14.2) (y12.2 != 3) false)) (some false) (((Q7 y12.1 y14.1).bind fun y20=>cond y20 ((Ve).bind fun y21=>some (cond y20 y21 false)) (some false)).bind fun (z17:Bool)=>some z17))
end Go.Proofs.Ytnapihlnlajlpaa
