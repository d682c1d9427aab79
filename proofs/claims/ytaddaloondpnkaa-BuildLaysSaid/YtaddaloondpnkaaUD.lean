/- Part UD of this seat's mirrors: functions of the seat's program, and the plain functions that they are; each theorem bears its own conditions. -/
import Derived.Test.YtaddaloondpnkaaH26
namespace Go.Proofs.Ytaddaloondpnkaa
open Go.RowKit
set_option linter.unusedVariables false
set_option linter.unusedSimpArgs false
set_option maxRecDepth 100000
set_option maxHeartbeats 4000000
structure Z8 where
 segments:(List (List Int))
 size:Int
 left:Int
noncomputable def Zo6 (a0:Int) (a1:Int):Option Z8 :=
 some (⟨([]:(List (List Int))),(if a0 < 1 then 1 else a0),(if 131072 < (if a1 < 0 then 0 else a1) then 131072 else (if a1 < 0 then 0 else a1))⟩:Z8)
structure K7 where
 L:(List (List Int))
 Size:Int
 Most:Int
 Used:Int
noncomputable def Uu (a0:Int) (a1:Int):Option K7 :=
 (cond (decide (a0 < 1)) (some 1) (some a0)).bind fun (z1:Int)=>(cond (decide (a1 < 0)) (some 0) (some a1)).bind fun (z3:Int)=>(cond (decide (131072 < z3)) (some 131072) (some z3)).bind fun (z5:Int)=>some (⟨([]:(List (List Int))),z1,z5,0⟩:K7)
noncomputable def Vu (a0:(Option Z8)):Option Int :=
 cond (Option.isNone a0) (some 0) ((a0).bind fun x4=>some (x4.segments.length:Int))
noncomputable def Y5 (a0:List Int):Option (List Int) :=
 Zkv 8 ([]:List Int) a0
noncomputable def Ut (a0:(List (List Int))) (s0_:(Int×(List (List Int)))):Option ((Int×(List (List Int))) ⊕ (List (List Int))) :=
 cond (decide (s0_.1 < (a0.length:Int))) ((Zv a0 s0_.1).bind fun x4=>(Y5 x4).bind fun y5=>(Zv s0_.2 s0_.1).bind fun x6=>some (.inl ((IntKind.i64.wrap (s0_.1+1)),(Yc s0_.2 s0_.1 y5)))) (some (.inr s0_.2))
noncomputable def Vn (a0:(List (List Int))):Option (List (List Int)) :=
 (Zfq 24 (a0.length:Int) ([]:(List Int))).bind fun l2=>(Zy (Ut a0) (0,l2)).bind fun (z9:(List (List Int)))=>some z9
noncomputable def Qh (a0:(Option Z8)) (a1:Int):Option Bool :=
 (cond (decide (0≤a1)) ((Vu a0).bind fun y4=>some (cond (decide (0≤a1)) (decide (a1 < y4)) false)) (some false)).bind fun (z2:Bool)=>some z2
noncomputable def Js (a0:(Option Z8)) (a1:Int):Option Int :=
 (Qh a0 a1).bind fun y2=>cond (!y2) (some 0) ((a0).bind fun x5=>(Zv x5.segments a1).bind fun x6=>some (x6.length:Int))
noncomputable def Vt (a0:(Option Z8)) (a1:Int) (a2:Int) (a3:Int):Option Bool :=
 ((Qh a0 a1).bind fun y8=>cond y8 (cond (decide (0≤a2)) (cond (decide (0≤a3)) ((Js a0 a1).bind fun y9=>cond (decide (a3≤y9)) ((Js a0 a1).bind fun y10=>some (cond (cond (cond (cond y8 (decide (0≤a2)) false) (decide (0≤a3)) false) (decide (a3≤y9)) false) (decide (a2≤(IntKind.i64.wrap (y10 - a3)))) false)) (some false)) (some false)) (some false)) (some false)).bind fun (z4:Bool)=>some z4
noncomputable def Ka (a0:(List Int)) (a1:(List Int)) (s0_:Int):Option (Int ⊕ (Unit ⊕ Unit)) :=
 cond (decide (s0_ < (a0.length:Int))) ((Zv a0 s0_).bind fun x3=>(Zv a1 s0_).bind fun x4=>cond (x3 != x4) (some (.inr (.inl ()))) (some (.inl (IntKind.i64.wrap (s0_+1))))) (some (.inr (.inr ())))
noncomputable def J9 (a0:(List Int)) (a1:(List Int)):Option Bool :=
 cond ((a0.length:Int) != (a1.length:Int)) (some false) ((Zy (Ka a0 a1) 0).bind fun (z7:(Unit ⊕ Unit))=>match z7 with | .inl z7=>some false | .inr z7=>some true)
noncomputable def Kb (a0:(List (List Int))) (a1:(List (List Int))) (s0_:Int):Option (Int ⊕ (Unit ⊕ Unit)) :=
 cond (decide (s0_ < (a0.length:Int))) ((Zv a0 s0_).bind fun x4=>(Zv a1 s0_).bind fun x5=>(J9 x4 x5).bind fun y6=>cond (!y6) (some (.inr (.inl ()))) (some (.inl (IntKind.i64.wrap (s0_+1))))) (some (.inr (.inr ())))
noncomputable def Vv (a0:(List (List Int))) (a1:(List (List Int))):Option Bool :=
 cond ((a0.length:Int) != (a1.length:Int)) (some false) ((Zy (Kb a0 a1) 0).bind fun (z9:(Unit ⊕ Unit))=>match z9 with | .inl z9=>some false | .inr z9=>some true)
structure Zd where
 Kind:Int
 Words:(List Int)
 Kids:(List Zd)
noncomputable def Yv (X4:(Zd→Int→Int→Option Int)) (a0:Zd) (a1:Int) (s0_:(Int×Int)):Option ((Int×Int) ⊕ Int) :=
 cond (cond (decide (s0_.2 < (a0.Kids.length:Int))) (decide (0≤s0_.1)) false) ((Zv a0.Kids s0_.2).bind fun x1=>(X4 x1 (IntKind.i64.wrap (a1 - 1)) s0_.1).bind fun y2=>some (.inl (y2,(IntKind.i64.wrap (s0_.2+1))))) (some (.inr s0_.1))
noncomputable def Yy (X4:(Zd→Int→Int→Option Int)) (a0:Zd) (a1:Int) (a2:Int):Option Int :=
 cond (cond (a1 == 0) true (decide ((IntKind.i64.wrap ((IntKind.i64.wrap (a2 - 1)) - (a0.Words.length:Int))) < 0))) (some (-1)) ((Zy (Yv X4 a0 a1) ((IntKind.i64.wrap ((IntKind.i64.wrap (a2 - 1)) - (a0.Words.length:Int))),0)).bind fun (z4:Int)=>some z4)
noncomputable def Z7:Nat→(Zd→Int→Int→Option Int)
 | 0=>(fun _ _ _=>none)
 | k+1=>Yy ((Z7 k))
noncomputable def Uc (a0:Zd) (a1:Int) (a2:Int):Option Int:=lim fun k=>(Z7 k) a0 a1 a2
noncomputable def Uv (a0:Zd):Option Bool :=
 (Uc a0 80 3000).bind fun y2=>some (decide (0≤y2))
noncomputable def Zco (a0:Int):Option Bool :=
 some (cond (decide (2≤a0)) (decide (a0≤9)) false)
noncomputable def Q2 (a0:(List Zd)) (s0_:Int):Option (Int ⊕ (Unit ⊕ Unit)) :=
 cond (decide (s0_ < (a0.length:Int))) ((Zv a0 s0_).bind fun x2=>cond (x2.Kind != 1) (some (.inr (.inl ()))) (some (.inl (IntKind.i64.wrap (s0_+1))))) (some (.inr (.inr ())))
noncomputable def Ke (a0:(List Zd)):Option Bool :=
 (Zy (Q2 a0) 0).bind fun (z5:(Unit ⊕ Unit))=>match z5 with | .inl z5=>some false | .inr z5=>some true
noncomputable def Jh (a0:Int):Option (Int×Bool) :=
 ((some (⟨[0,1,8,16,32,64],rfl⟩:(Arr Int 6)))).bind fun y6=>((some (⟨[0,0,0,0,0,0],rfl⟩:(Arr Int 6)))).bind fun y8=>cond (cond (decide (a0 < 0)) true (decide (6≤a0))) (some (0,false)) ((Zv y6.1 a0).bind fun x12=>some (x12,true))
noncomputable def Zag (a0:Int) (a1:Int):Option Bool :=
 (Jh a0).bind fun y2=>(cond y2.2 ((Jr (0≤y2.1)).bind fun u6=>some (cond y2.2 ((Int.fdiv a1 (2 ^ min (Int.toNat y2.1) 64)) == 0) false)) (some false)).bind fun (z4:Bool)=>some z4
noncomputable def Zan (Yo:(Zd→Option Bool)) (Ym:(Zd→Int→Option Bool)) (Yb:((List Zd)→Int→Option Bool)) (Yd:((List Zd)→Int→Option Bool)) (a0:Zd):Option Bool :=
 cond (a0.Kind == 10) (some (cond ((a0.Words.length:Int) == 1) ((a0.Kids.length:Int) == 0) false)) ((Ym a0 64).bind fun y2=>some y2)
noncomputable def Zao (Yo:(Zd→Option Bool)) (Ym:(Zd→Int→Option Bool)) (Yb:((List Zd)→Int→Option Bool)) (Yd:((List Zd)→Int→Option Bool)) (a0:Zd) (a1:Int):Option Bool :=
 cond (a0.Kind == 0) (some (cond ((a0.Words.length:Int) == 0) ((a0.Kids.length:Int) == 0) false)) (cond (a1 == 0) (some false) (cond (a0.Kind == 1) ((cond (decide ((a0.Words.length:Int) < 65536)) (cond (decide ((a0.Kids.length:Int) < 65536)) ((Yb a0.Kids (IntKind.i64.wrap (a1 - 1))).bind fun y4=>some (cond (cond (decide ((a0.Words.length:Int) < 65536)) (decide ((a0.Kids.length:Int) < 65536)) false) y4 false)) (some false)) (some false)).bind fun (z2:Bool)=>some z2) ((Zco a0.Kind).bind fun y8=>cond (cond (cond (!y8) true (decide (0 < (a0.Words.length:Int)))) true (decide (1048576≤(a0.Kids.length:Int)))) (some false) (cond (a0.Kind == 8) ((Yb a0.Kids (IntKind.i64.wrap (a1 - 1))).bind fun y10=>some y10) (cond (a0.Kind == 9) (((Ke a0.Kids).bind fun y16=>cond y16 ((Yb a0.Kids (IntKind.i64.wrap (a1 - 1))).bind fun y17=>some (cond y16 y17 false)) (some false)).bind fun (z13:Bool)=>some z13) ((Yd a0.Kids (IntKind.i64.wrap (a0.Kind - 2))).bind fun y20=>some y20))))))
noncomputable def Jn (Ym:(Zd→Int→Option Bool)) (a0:(List Zd)) (a1:Int) (s0_:Int):Option (Int ⊕ (Unit ⊕ Unit)) :=
 cond (decide (s0_ < (a0.length:Int))) ((Zv a0 s0_).bind fun x2=>(Ym x2 a1).bind fun y4=>cond (!y4) (some (.inr (.inl ()))) (some (.inl (IntKind.i64.wrap (s0_+1))))) (some (.inr (.inr ())))
noncomputable def Ve (Yo:(Zd→Option Bool)) (Ym:(Zd→Int→Option Bool)) (Yb:((List Zd)→Int→Option Bool)) (Yd:((List Zd)→Int→Option Bool)) (a0:(List Zd)) (a1:Int):Option Bool :=
 (Zy (Jn Ym a0 a1) 0).bind fun (z7:(Unit ⊕ Unit))=>match z7 with | .inl z7=>some false | .inr z7=>some true
noncomputable def Jm (Yo:(Zd→Option Bool)) (a0:(List Zd)) (a1:Int) (s0_:Int):Option (Int ⊕ (Unit ⊕ Unit)) :=
 cond (decide (s0_ < (a0.length:Int))) ((Zv a0 s0_).bind fun x2=>(cond (x2.Kind != 10) (some true) ((Yo x2).bind fun y10=>cond y10 ((Zv x2.Words 0).bind fun x11=>(Zag a1 x11).bind fun y12=>some (cond (cond (x2.Kind != 10) true (!y10)) true (!y12))) (some true))).bind fun (z6:Bool)=>cond z6 (some (.inr (.inl ()))) (some (.inl (IntKind.i64.wrap (s0_+1))))) (some (.inr (.inr ())))
noncomputable def Vd (Yo:(Zd→Option Bool)) (Ym:(Zd→Int→Option Bool)) (Yb:((List Zd)→Int→Option Bool)) (Yd:((List Zd)→Int→Option Bool)) (a0:(List Zd)) (a1:Int):Option Bool :=
 (Zy (Jm Yo a0 a1) 0).bind fun (z17:(Unit ⊕ Unit))=>match z17 with | .inl z17=>some false | .inr z17=>some true
noncomputable def Zr:Nat→((Zd→Option Bool)×(Zd→Int→Option Bool)×((List Zd)→Int→Option Bool)×((List Zd)→Int→Option Bool))
 | 0=>((fun _=>none),(fun _ _=>none),(fun _ _=>none),(fun _ _=>none))
 | k+1=>(Zan ((Zr k).1) ((Zr k).2.1) ((Zr k).2.2.1) ((Zr k).2.2.2),Zao ((Zr k).1) ((Zr k).2.1) ((Zr k).2.2.1) ((Zr k).2.2.2),Ve ((Zr k).1) ((Zr k).2.1) ((Zr k).2.2.1) ((Zr k).2.2.2),Vd ((Zr k).1) ((Zr k).2.1) ((Zr k).2.2.1) ((Zr k).2.2.2))
noncomputable def Zno (a0:Zd):Option Bool:=lim fun k=>(Zr k).1 a0
noncomputable def Jc (a0:(List Int)) (s0_:Int):Option (Int ⊕ Int) :=
 (cond (decide (0 < s0_)) ((Zv a0 (IntKind.i64.wrap (s0_ - 1))).bind fun x4=>some (cond (decide (0 < s0_)) (x4 == 0) false)) (some false)).bind fun (z2:Bool)=>cond z2 (some (.inl (IntKind.i64.wrap (s0_ - 1)))) (some (.inr s0_))
noncomputable def K1 (a0:(List Int)):Option (List Int) :=
 (Zy (Jc a0) (a0.length:Int)).bind fun (z7:Int)=>(Zf2 a0 0 z7).bind fun l9=>some l9
noncomputable def Ju (a0:(List Zd)) (s0_:Int):Option (Int ⊕ Int) :=
 (cond (decide (0 < s0_)) ((Zv a0 (IntKind.i64.wrap (s0_ - 1))).bind fun x6=>some (cond (decide (0 < s0_)) (x6.Kind == 0) false)) (some false)).bind fun (z3:Bool)=>cond z3 (some (.inl (IntKind.i64.wrap (s0_ - 1)))) (some (.inr s0_))
noncomputable def Vj (a0:(List Zd)):Option (List Zd) :=
 (Zy (Ju a0) (a0.length:Int)).bind fun (z10:Int)=>(Zf2 a0 0 z10).bind fun l12=>some l12
noncomputable def Kv (Zak:(Zd→Option Zd)) (z1:((List Int)×(List Zd))) (s0_:(Int×(List Zd))):Option ((Int×(List Zd)) ⊕ (List Zd)) :=
 cond (decide (s0_.1 < (z1.2.length:Int))) ((Zv z1.2 s0_.1).bind fun x9=>(Zak x9).bind fun y10=>(Zv s0_.2 s0_.1).bind fun x11=>some (.inl ((IntKind.i64.wrap (s0_.1+1)),(Yc s0_.2 s0_.1 y10)))) (some (.inr s0_.2))
noncomputable def Zch (Zak:(Zd→Option Zd)) (a0:Zd):Option Zd :=
 cond (a0.Kind == 0) (some (⟨0,[],[]⟩:Zd)) ((cond (a0.Kind == 1) ((K1 a0.Words).bind fun y2=>(Vj a0.Kids).bind fun y3=>some (y2,y3)) (some (a0.Words,a0.Kids))).bind fun (z1:((List Int)×(List Zd)))=>(cond (decide (0 < (z1.2.length:Int))) ((Zfq 56 (z1.2.length:Int) (⟨(0:Int),[],[]⟩:Zd)).bind fun l6=>some l6) (some ([]:List Zd))).bind fun (z5:(List Zd))=>(Zy (Kv Zak z1) (0,z5)).bind fun (z14:(List Zd))=>some (⟨a0.Kind,z1.1,z14⟩:Zd))
noncomputable def Jf:Nat→(Zd→Option Zd)
 | 0=>(fun _=>none)
 | k+1=>Zch ((Jf k))
noncomputable def Zo7 (a0:Zd):Option Zd:=lim fun k=>(Jf k) a0
noncomputable def Xg (a0:Int):Option Int :=
 cond (a0 == 0) (some 0) (cond (a0 == 1) (some 1) (cond (a0 == 2) (some 8) (cond (a0 == 3) (some 16) (cond (a0 == 4) (some 32) (cond (a0 == 5) (some 64) (some (-1)))))))
noncomputable def Yz (y2:Int) (s0_:(Int×Int)):Option ((Int×Int) ⊕ Int) :=
 cond (decide (s0_.2 < y2)) (some (.inl ((IntKind.u64.wrap (Int.tdiv s0_.1 2)),(IntKind.i64.wrap (s0_.2+1))))) (some (.inr s0_.1))
noncomputable def Qb (a0:Int) (a1:Int):Option Bool :=
 (Xg a0).bind fun y2=>cond (decide (y2 < 0)) (some false) ((Zy (Yz y2) (a1,0)).bind fun (z4:Int)=>some (z4 == 0))
noncomputable def Ql (Qs:(Zd→Int→Option Bool)) (a0:Zd) (a1:Int) (s0_:Int):Option (Int ⊕ (Unit ⊕ Unit)) :=
 cond (decide (s0_ < (a0.Kids.length:Int))) ((Zv a0.Kids s0_).bind fun x2=>(Qs x2 (IntKind.i64.wrap (a1 - 1))).bind fun y4=>cond (!y4) (some (.inr (.inl ()))) ((cond ((cond (decide (2≤a0.Kind)) (decide (a0.Kind≤7)) false) != (x2.Kind == 10)) (some true) (cond (a0.Kind == 9) (cond (x2.Kind != 1) (some true) (cond (decide (2≤a0.Kind)) (cond (decide (a0.Kind≤7)) ((Zv x2.Words 0).bind fun x14=>(Qb (IntKind.i64.wrap (a0.Kind - 2)) x14).bind fun y15=>some (cond (cond ((cond (decide (2≤a0.Kind)) (decide (a0.Kind≤7)) false) != (x2.Kind == 10)) true (cond (a0.Kind == 9) (x2.Kind != 1) false)) true (cond (cond (decide (2≤a0.Kind)) (decide (a0.Kind≤7)) false) (!y15) false))) (some (cond (cond ((cond (decide (2≤a0.Kind)) (decide (a0.Kind≤7)) false) != (x2.Kind == 10)) true (cond (a0.Kind == 9) (x2.Kind != 1) false)) true false))) (some (cond (cond ((cond (decide (2≤a0.Kind)) (decide (a0.Kind≤7)) false) != (x2.Kind == 10)) true (cond (a0.Kind == 9) (x2.Kind != 1) false)) true false)))) (cond (decide (2≤a0.Kind)) (cond (decide (a0.Kind≤7)) ((Zv x2.Words 0).bind fun x16=>(Qb (IntKind.i64.wrap (a0.Kind - 2)) x16).bind fun y17=>some (cond (cond ((cond (decide (2≤a0.Kind)) (decide (a0.Kind≤7)) false) != (x2.Kind == 10)) true (cond (a0.Kind == 9) (x2.Kind != 1) false)) true (cond (cond (decide (2≤a0.Kind)) (decide (a0.Kind≤7)) false) (!y17) false))) (some (cond (cond ((cond (decide (2≤a0.Kind)) (decide (a0.Kind≤7)) false) != (x2.Kind == 10)) true (cond (a0.Kind == 9) (x2.Kind != 1) false)) true false))) (some (cond (cond ((cond (decide (2≤a0.Kind)) (decide (a0.Kind≤7)) false) != (x2.Kind == 10)) true (cond (a0.Kind == 9) (x2.Kind != 1) false)) true false))))).bind fun (z9:Bool)=>cond z9 (some (.inr (.inl ()))) (some (.inl (IntKind.i64.wrap (s0_+1)))))) (some (.inr (.inr ())))
noncomputable def Jl (Qs:(Zd→Int→Option Bool)) (a0:Zd) (a1:Int):Option Bool :=
 cond (a0.Kind == 0) (some (cond ((a0.Words.length:Int) == 0) ((a0.Kids.length:Int) == 0) false)) (cond (a0.Kind == 10) (some (cond ((a0.Words.length:Int) == 1) ((a0.Kids.length:Int) == 0) false)) (cond (cond (cond (cond (cond (cond (decide (a0.Kind < 0)) true (decide (10 < a0.Kind))) true (a1 == 0)) true (decide (65536≤(a0.Words.length:Int)))) true (cond (a0.Kind == 1) (decide (65536≤(a0.Kids.length:Int))) false)) true (decide (1048576≤(a0.Kids.length:Int)))) (some false) (cond (cond (decide (1 < a0.Kind)) (decide (0 < (a0.Words.length:Int))) false) (some false) ((Zy (Ql Qs a0 a1) 0).bind fun (z28:(Unit ⊕ Unit))=>match z28 with | .inl z28=>some false | .inr z28=>some true))))
noncomputable def Xr:Nat→(Zd→Int→Option Bool)
 | 0=>(fun _ _=>none)
 | k+1=>Jl ((Xr k))
noncomputable def Gp (a0:Zd) (a1:Int):Option Bool:=lim fun k=>(Xr k) a0 a1
noncomputable def Q1 (a0:(List Int)) (s0_:Int):Option (Int ⊕ Int) :=
 (cond (decide (0 < s0_)) ((Zv a0 (IntKind.i64.wrap (s0_ - 1))).bind fun x4=>some (cond (decide (0 < s0_)) (x4 == 0) false)) (some false)).bind fun (z2:Bool)=>cond z2 (some (.inl (IntKind.i64.wrap (s0_ - 1)))) (some (.inr s0_))
noncomputable def Kc (a0:(List Int)):Option (List Int) :=
 (Zy (Q1 a0) (a0.length:Int)).bind fun (z7:Int)=>(Zf2 a0 0 z7).bind fun l10=>(Zkv 8 ([]:List Int) l10).bind fun l11=>some l11
noncomputable def Xc (Q7:(Zd→Option Zd)) (a0:Zd) (s0_:(Int×Int×(List Zd))):Option ((Int×Int×(List Zd)) ⊕ (Int×(List Zd))) :=
 cond (decide (s0_.2.1 < (a0.Kids.length:Int))) (((Zv a0.Kids s0_.2.1).bind fun x4=>(Q7 x4).bind fun y5=>(Zkv 56 s0_.2.2 ([y5]:List Zd)).bind fun l7=>cond (y5.Kind != 0) (some ((IntKind.i64.wrap (s0_.2.1+1)),l7)) (some (s0_.1,l7))).bind fun (z1:(Int×(List Zd)))=>some (.inl (z1.1,(IntKind.i64.wrap (s0_.2.1+1)),z1.2))) (some (.inr (s0_.1,s0_.2.2)))
noncomputable def J7 (Q7:(Zd→Option Zd)) (a0:Zd):Option Zd :=
 cond (a0.Kind == 0) (some (⟨0,[],[]⟩:Zd)) ((Zy (Xc Q7 a0) (0,0,([]:List Zd))).bind fun (z10:(Int×(List Zd)))=>cond (a0.Kind == 1) ((Kc a0.Words).bind fun y14=>(Zf2 z10.2 0 z10.1).bind fun l15=>some (⟨1,y14,l15⟩:Zd)) ((Zkv 8 ([]:List Int) a0.Words).bind fun l17=>some (⟨a0.Kind,l17,z10.2⟩:Zd)))
noncomputable def Ys:Nat→(Zd→Option Zd)
 | 0=>(fun _=>none)
 | k+1=>J7 ((Ys k))
noncomputable def Zfo (a0:Zd):Option Zd:=lim fun k=>(Ys k) a0
noncomputable def Qm (a0:Zd) (s0_:(Int×Int×Int)):Option ((Int×Int×Int) ⊕ (Int×Int)) :=
 cond (decide (s0_.2.2 < (a0.Kids.length:Int))) ((((Zv a0.Kids s0_.2.2).bind fun x5=>cond (decide (s0_.1 < (x5.Words.length:Int))) ((Zv a0.Kids s0_.2.2).bind fun x7=>some (x7.Words.length:Int)) (some s0_.1)).bind fun (z2:Int)=>(Zv a0.Kids s0_.2.2).bind fun x12=>cond (decide (s0_.2.1 < (x12.Kids.length:Int))) ((Zv a0.Kids s0_.2.2).bind fun x14=>some (z2,(x14.Kids.length:Int))) (some (z2,s0_.2.1))).bind fun (z1:(Int×Int))=>some (.inl (z1.1,z1.2,(IntKind.i64.wrap (s0_.2.2+1))))) (some (.inr (s0_.1,s0_.2.1)))
noncomputable def Vb (a0:Zd):Option (Int×Int) :=
 (Zy (Qm a0) (0,0,0)).bind fun (z18:(Int×Int))=>some (z18.1,z18.2)
noncomputable def J8 (a0:Int) (a1:Int):Option Int :=
 (Xg a0).bind fun y2=>cond (cond (cond (decide (y2 < 1)) true (decide (a1 < 0))) true (decide (1099511627776 < a1))) (some 0) ((Xg a0).bind fun y5=>(Jr (y5≠0)).bind fun u6=>(Jr ((IntKind.i64.wrap (Int.tdiv 64 y5))≠0)).bind fun u8=>cond (decide (0 < (Int.tmod a1 (IntKind.i64.wrap (Int.tdiv 64 y5))))) ((Jr ((IntKind.i64.wrap (Int.tdiv 64 y5))≠0)).bind fun u10=>some (IntKind.i64.wrap ((IntKind.i64.wrap (Int.tdiv a1 (IntKind.i64.wrap (Int.tdiv 64 y5))))+1))) ((Jr ((IntKind.i64.wrap (Int.tdiv 64 y5))≠0)).bind fun u12=>some (IntKind.i64.wrap (Int.tdiv a1 (IntKind.i64.wrap (Int.tdiv 64 y5))))))
noncomputable def Kr (y2:Int) (s0_:(Int×(List Int))) (s1_:(Int×Int)):Option ((Int×Int) ⊕ Int) :=
 cond (decide (s1_.2 < (Int.tmod (IntKind.i64.wrap (s0_.1 * y2)) 64))) (some (.inl ((IntKind.u64.wrap (s1_.1 * 2)),(IntKind.i64.wrap (s1_.2+1))))) (some (.inr s1_.1))
noncomputable def Yl (a0:Int) (a1:(List Int)) (y2:Int) (s0_:(Int×(List Int))):Option ((Int×(List Int)) ⊕ (Unit ⊕ (List Int))) :=
 cond (decide (s0_.1 < (a1.length:Int))) (((Zv a1 s0_.1).bind fun x9=>(Qb a0 x9).bind fun y11=>cond (!y11) (some (.inr ())) ((Zy (Kr y2 s0_) (x9,0)).bind fun (z13:Int)=>cond (decide (0 < y2)) ((Zv s0_.2 (IntKind.i64.wrap (Int.tdiv (IntKind.i64.wrap (s0_.1 * y2)) 64))).bind fun x14=>some (.inl (Yc s0_.2 (IntKind.i64.wrap (Int.tdiv (IntKind.i64.wrap (s0_.1 * y2)) 64)) (IntKind.u64.wrap (x14+z13))))) (some (.inl s0_.2)))).bind fun (z7:((List Int) ⊕ Unit))=>match z7 with | .inl z7=>some (.inl ((IntKind.i64.wrap (s0_.1+1)),z7)) | .inr z7=>some (.inr (.inl ()))) (some (.inr (.inr s0_.2)))
noncomputable def K0 (a0:Int) (a1:(List Int)):Option ((List Int)×Bool) :=
 (Xg a0).bind fun y2=>cond (decide (y2 < 0)) (some (([]:(List Int)),false)) ((J8 a0 (a1.length:Int)).bind fun y5=>(Zfq 8 y5 (0:Int)).bind fun l6=>(Zy (Yl a0 a1 y2) (0,l6)).bind fun (z20:(Unit ⊕ (List Int)))=>match z20 with | .inl z20=>some (([]:(List Int)),false) | .inr z20=>some (z20,true))
noncomputable def Vi (a0:Zd) (s0_:(Int×Int×Int)):Option ((Int×Int×Int) ⊕ (Int×Int)) :=
 cond (decide (s0_.2.2 < (a0.Kids.length:Int))) ((Zv a0.Kids s0_.2.2).bind fun x2=>some (.inl ((if s0_.1 < (x2.Words.length:Int) then (x2.Words.length:Int) else s0_.1),(if s0_.2.1 < (x2.Kids.length:Int) then (x2.Kids.length:Int) else s0_.2.1),(IntKind.i64.wrap (s0_.2.2+1))))) (some (.inr (s0_.1,s0_.2.1)))
noncomputable def Zay (a0:Zd):Option (Int×Int) :=
 (Zy (Vi a0) (0,0,0)).bind fun (z4:(Int×Int))=>some (z4.1,z4.2)
structure Z3 where
 Kind:Int
 Off:Int
 Data:Int
 Ptrs:Int
 Code:Int
 Count:Int
 Segment:Int
 Double:Bool
noncomputable def Zcf (a0:Zd):Option Z3 :=
 cond (a0.Kind == 1) (some (⟨1,0,(a0.Words.length:Int),(a0.Kids.length:Int),0,0,0,false⟩:Z3)) (cond (a0.Kind == 9) ((Zay a0).bind fun y2=>some (⟨2,0,0,0,7,(IntKind.i64.wrap ((a0.Kids.length:Int) * (IntKind.i64.wrap (y2.1+y2.2)))),0,false⟩:Z3)) (some (⟨2,0,0,0,(IntKind.i64.wrap (a0.Kind - 2)),(a0.Kids.length:Int),0,false⟩:Z3)))
noncomputable def Zcp (a0:Zd) (a1:Int):Option Int :=
 cond (cond (decide (a1 < 0)) true (decide ((a0.Words.length:Int)≤a1))) (some 0) ((Zv a0.Words a1).bind fun x2=>some x2)
noncomputable def Zcq (a0:Int) (a1:Int):Option Int :=
 (Jh a0).bind fun y2=>cond (cond (cond (!y2.2) true (decide (a1 < 0))) true (decide (1099511627776 < a1))) (some 0) (some (IntKind.i64.wrap (Int.tdiv (IntKind.i64.wrap ((IntKind.i64.wrap (a1 * y2.1))+63)) 64)))
noncomputable def Vo (a0:Int) (a1:(List Int)) (s0_:(Bool×Int)):Option ((Bool×Int) ⊕ Bool) :=
 cond (decide (s0_.2 < (a1.length:Int))) ((Zv a1 s0_.2).bind fun x4=>cond s0_.1 ((Zag a0 x4).bind fun y5=>some (.inl ((cond s0_.1 y5 false),(IntKind.i64.wrap (s0_.2+1))))) (some (.inl (false,(IntKind.i64.wrap (s0_.2+1)))))) (some (.inr s0_.1))
noncomputable def Kk (a1:(List Int)) (y2:(Int×Bool)) (s1_:(Int×(List Int))):Option ((Int×(List Int)) ⊕ (List Int)) :=
 cond (decide (s1_.1 < (a1.length:Int))) ((Zv a1 s1_.1).bind fun x16=>(Jr ((IntKind.i64.wrap (Int.tdiv 64 y2.1))≠0)).bind fun u17=>(Zv s1_.2 (IntKind.i64.wrap (Int.tdiv s1_.1 (IntKind.i64.wrap (Int.tdiv 64 y2.1))))).bind fun x18=>(Jr ((IntKind.i64.wrap (Int.tdiv 64 y2.1))≠0)).bind fun u19=>(Jr (0≤(IntKind.i64.wrap ((Int.tmod s1_.1 (IntKind.i64.wrap (Int.tdiv 64 y2.1))) * y2.1)))).bind fun u20=>some (.inl ((IntKind.i64.wrap (s1_.1+1)),(Yc s1_.2 (IntKind.i64.wrap (Int.tdiv s1_.1 (IntKind.i64.wrap (Int.tdiv 64 y2.1)))) (IntKind.u64.wrap (Vy .u64 x18 (IntKind.u64.wrap (x16 * 2 ^ min (Int.toNat (IntKind.i64.wrap ((Int.tmod s1_.1 (IntKind.i64.wrap (Int.tdiv 64 y2.1))) * y2.1))) 64)))))))) (some (.inr s1_.2))
noncomputable def Zbs (a0:Int) (a1:(List Int)):Option ((List Int)×Bool) :=
 (Jh a0).bind fun y2=>(Zy (Vo a0 a1) (y2.2,0)).bind fun (z8:Bool)=>cond (!z8) (some (([]:(List Int)),false)) ((Zcq a0 (a1.length:Int)).bind fun y11=>(Zfq 8 y11 (0:Int)).bind fun l12=>cond (y2.1 == 0) (some (l12,true)) ((Jr (y2.1≠0)).bind fun u14=>(Zy (Kk a1 y2) (0,l12)).bind fun (z24:(List Int))=>some (z24,true)))
noncomputable def Jt (a0:Zd) (s0_:(Int×(List Int))):Option ((Int×(List Int)) ⊕ (List Int)) :=
 cond (decide (s0_.1 < (a0.Kids.length:Int))) ((Zv a0.Kids s0_.1).bind fun x2=>(Zcp x2 0).bind fun y3=>(Zkv 8 s0_.2 ([y3]:List Int)).bind fun l4=>some (.inl ((IntKind.i64.wrap (s0_.1+1)),l4))) (some (.inr s0_.2))
noncomputable def U8 (a0:Zd):Option (List Int) :=
 (Zy (Jt a0) (0,([]:List Int))).bind fun (z6:(List Int))=>(Zbs (IntKind.i64.wrap (a0.Kind - 2)) z6).bind fun y8=>some y8.1
noncomputable def Zgc (a0:Z3):Option Int :=
 cond (a0.Kind == 1) (some (IntKind.u64.wrap (Vy .u64 (IntKind.u64.wrap (Vy .u64 (IntKind.u64.wrap (IntKind.u32.wrap ((IntKind.u32.wrap a0.Off) * 2 ^ min (Int.toNat 2) 32))) (IntKind.u64.wrap ((IntKind.u64.wrap a0.Data) * 2 ^ min (Int.toNat 32) 64)))) (IntKind.u64.wrap ((IntKind.u64.wrap a0.Ptrs) * 2 ^ min (Int.toNat 48) 64))))) (cond (a0.Kind == 2) (some (IntKind.u64.wrap (Vy .u64 (IntKind.u64.wrap (Vy .u64 (IntKind.u64.wrap (Vy .u64 1 (IntKind.u64.wrap (IntKind.u32.wrap ((IntKind.u32.wrap a0.Off) * 2 ^ min (Int.toNat 2) 32))))) (IntKind.u64.wrap ((IntKind.u64.wrap a0.Code) * 2 ^ min (Int.toNat 32) 64)))) (IntKind.u64.wrap ((IntKind.u64.wrap a0.Count) * 2 ^ min (Int.toNat 35) 64))))) (cond (a0.Kind == 3) ((cond a0.Double (some (IntKind.u64.wrap (Vy .u64 (IntKind.u64.wrap (Vy .u64 (IntKind.u64.wrap (Vy .u64 2 (IntKind.u64.wrap ((IntKind.u64.wrap a0.Off) * 2 ^ min (Int.toNat 3) 64)))) (IntKind.u64.wrap ((IntKind.u64.wrap a0.Segment) * 2 ^ min (Int.toNat 32) 64)))) 4))) (some (IntKind.u64.wrap (Vy .u64 (IntKind.u64.wrap (Vy .u64 2 (IntKind.u64.wrap ((IntKind.u64.wrap a0.Off) * 2 ^ min (Int.toNat 3) 64)))) (IntKind.u64.wrap ((IntKind.u64.wrap a0.Segment) * 2 ^ min (Int.toNat 32) 64)))))).bind fun (z1:Int)=>some z1) (some 0)))
noncomputable def Zax (a0:Int):Option Int :=
 some (IntKind.i64.wrap (Int.fdiv (IntKind.i32.wrap (IntKind.u32.wrap a0)) (2 ^ min (Int.toNat 2) 32)))
noncomputable def Y6 (a0:Int) (a1:Int) (a2:Int):Option Int :=
 (Jr (0≤a1)).bind fun u3=>(Jr (0≤a2)).bind fun u4=>some (IntKind.i64.wrap (IntKind.u64.wrap (Za5 .u64 (Int.fdiv a0 (2 ^ min (Int.toNat a1) 64)) (IntKind.u64.wrap ((IntKind.u64.wrap (1 * 2 ^ min (Int.toNat a2) 64)) - 1)))))
noncomputable def Zaw (a0:Int):Option Z3 :=
 cond (a0 == 0) (some (⟨0,0,0,0,0,0,0,false⟩:Z3)) (cond ((IntKind.u64.wrap (Za5 .u64 a0 3)) == 0) ((Zax a0).bind fun y4=>(Y6 a0 32 16).bind fun y5=>(Y6 a0 48 16).bind fun y6=>some (⟨1,y4,y5,y6,0,0,0,false⟩:Z3)) (cond ((IntKind.u64.wrap (Za5 .u64 a0 3)) == 1) ((Zax a0).bind fun y10=>(Y6 a0 32 3).bind fun y11=>(Y6 a0 35 29).bind fun y12=>some (⟨2,y10,0,0,y11,y12,0,false⟩:Z3)) (cond ((IntKind.u64.wrap (Za5 .u64 a0 3)) == 2) ((Y6 a0 3 29).bind fun y15=>(Y6 a0 32 32).bind fun y16=>some (⟨3,y15,0,0,0,0,y16,((IntKind.u64.wrap (Za5 .u64 (Int.fdiv a0 (2 ^ min (Int.toNat 2) 64)) 1)) == 1)⟩:Z3)) (some (⟨4,0,0,0,0,0,0,false⟩:Z3)))))
noncomputable def Jg (a0:Z3):Option (Int×Bool) :=
 (Zgc a0).bind fun y2=>(cond (a0.Kind != 4) ((Zaw y2).bind fun y6=>some (cond (a0.Kind != 4) ((y6.Kind == a0.Kind) && ((y6.Off == a0.Off) && ((y6.Data == a0.Data) && ((y6.Ptrs == a0.Ptrs) && ((y6.Code == a0.Code) && ((y6.Count == a0.Count) && ((y6.Segment == a0.Segment) && (y6.Double == a0.Double)))))))) false)) (some false)).bind fun (z4:Bool)=>some (y2,z4)
noncomputable def K9 (a0:Z3):Option Int :=
 (Jg a0).bind fun y2=>some y2.1
noncomputable def Zfp (a0:Int):Option Int :=
 ((some (⟨[0,1,8,16,32,64,64],rfl⟩:(Arr Int 7)))).bind fun y6=>((some (⟨[0,0,0,0,0,0,0],rfl⟩:(Arr Int 7)))).bind fun y8=>(Zv y6.1 a0).bind fun x12=>some x12
noncomputable def Ja (a0:Z3):Option (Int×Bool) :=
 cond (a0.Kind == 1) (some ((IntKind.i64.wrap (a0.Data+a0.Ptrs)),true)) (cond (cond (a0.Kind == 2) (a0.Code == 7) false) (some ((IntKind.i64.wrap (a0.Count+1)),true)) (cond (cond (cond (cond (cond (a0.Kind == 2) (decide (0≤a0.Code)) false) (decide (a0.Code < 7)) false) (decide (0≤a0.Count)) false) (decide (a0.Count≤536870911)) false) ((Zfp a0.Code).bind fun y2=>some ((IntKind.i64.wrap (Int.tdiv (IntKind.i64.wrap ((IntKind.i64.wrap (a0.Count * y2))+63)) 64)),true)) (some (0,false))))
noncomputable def Vw (a0:Int) (a1:Int) (a2:Int) (a3:Int):Option Int :=
 (cond (decide ((IntKind.i64.wrap ((IntKind.i64.wrap (a1 - a0)) - 1)) < 0)) (some (IntKind.i64.wrap ((IntKind.i64.wrap ((IntKind.i64.wrap (a1 - a0)) - 1))+1073741824))) (some (IntKind.i64.wrap ((IntKind.i64.wrap (a1 - a0)) - 1)))).bind fun (z1:Int)=>some (IntKind.u64.wrap ((IntKind.u64.wrap ((IntKind.u64.wrap (IntKind.i64.wrap (4 * z1)))+a2))+(IntKind.u64.wrap (a3 * 4294967296))))
end Go.Proofs.Ytaddaloondpnkaa
