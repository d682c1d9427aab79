/- Part AD of this seat's mirrors: functions of the seat's program, and the plain functions that they are; each theorem bears its own conditions. -/
import Derived.Test.YtmlcnhambfkjaaaGreatH26
namespace Go.Proofs.YtmlcnhambfkjaaaGreat
open Go.RowKit
set_option linter.unusedVariables false
set_option linter.unusedSimpArgs false
set_option maxRecDepth 100000
set_option maxHeartbeats 4000000
noncomputable def Zh6 (a0:Int):Option Int :=
 cond (a0 == 0) (some 0) (cond (a0 == 1) (some 1) (cond (a0 == 2) (some 8) (cond (a0 == 3) (some 16) (cond (a0 == 4) (some 32) (cond (a0 == 5) (some 64) (some (-1)))))))
noncomputable def Jc (y2:Int) (s0_:(Int×Int)):Option ((Int×Int) ⊕ Int) :=
 cond (decide (s0_.2 < y2)) (some (.inl ((IntKind.u64.wrap (Int.tdiv s0_.1 2)),(IntKind.i64.wrap (s0_.2+1))))) (some (.inr s0_.1))
noncomputable def Zag (a0:Int) (a1:Int):Option Bool :=
 (Zh6 a0).bind fun y2=>cond (decide (y2 < 0)) (some false) ((Z4 (Jc y2) (a1,0)).bind fun (z4:Int)=>some (z4 == 0))
structure Za where
 Kind:Int
 Words:(List Int)
 Kids:(List Za)
noncomputable def Uh (Jz:(Za→Int→Option Bool)) (a0:Za) (a1:Int) (s0_:Int):Option (Int ⊕ (Unit ⊕ Unit)) :=
 cond (decide (s0_ < (a0.Kids.length:Int))) ((Xp a0.Kids s0_).bind fun x2=>(Jz x2 (IntKind.i64.wrap (a1 - 1))).bind fun y4=>cond (!y4) (some (.inr (.inl ()))) ((cond ((cond (decide (2≤a0.Kind)) (decide (a0.Kind≤7)) false) != (x2.Kind == 10)) (some true) (cond (a0.Kind == 9) (cond (x2.Kind != 1) (some true) (cond (decide (2≤a0.Kind)) (cond (decide (a0.Kind≤7)) ((Xp x2.Words 0).bind fun x14=>(Zag (IntKind.i64.wrap (a0.Kind - 2)) x14).bind fun y15=>some (cond (cond ((cond (decide (2≤a0.Kind)) (decide (a0.Kind≤7)) false) != (x2.Kind == 10)) true (cond (a0.Kind == 9) (x2.Kind != 1) false)) true (cond (cond (decide (2≤a0.Kind)) (decide (a0.Kind≤7)) false) (!y15) false))) (some (cond (cond ((cond (decide (2≤a0.Kind)) (decide (a0.Kind≤7)) false) != (x2.Kind == 10)) true (cond (a0.Kind == 9) (x2.Kind != 1) false)) true false))) (some (cond (cond ((cond (decide (2≤a0.Kind)) (decide (a0.Kind≤7)) false) != (x2.Kind == 10)) true (cond (a0.Kind == 9) (x2.Kind != 1) false)) true false)))) (cond (decide (2≤a0.Kind)) (cond (decide (a0.Kind≤7)) ((Xp x2.Words 0).bind fun x16=>(Zag (IntKind.i64.wrap (a0.Kind - 2)) x16).bind fun y17=>some (cond (cond ((cond (decide (2≤a0.Kind)) (decide (a0.Kind≤7)) false) != (x2.Kind == 10)) true (cond (a0.Kind == 9) (x2.Kind != 1) false)) true (cond (cond (decide (2≤a0.Kind)) (decide (a0.Kind≤7)) false) (!y17) false))) (some (cond (cond ((cond (decide (2≤a0.Kind)) (decide (a0.Kind≤7)) false) != (x2.Kind == 10)) true (cond (a0.Kind == 9) (x2.Kind != 1) false)) true false))) (some (cond (cond ((cond (decide (2≤a0.Kind)) (decide (a0.Kind≤7)) false) != (x2.Kind == 10)) true (cond (a0.Kind == 9) (x2.Kind != 1) false)) true false))))).bind fun (z9:Bool)=>cond z9 (some (.inr (.inl ()))) (some (.inl (IntKind.i64.wrap (s0_+1)))))) (some (.inr (.inr ())))
noncomputable def Zbr (Jz:(Za→Int→Option Bool)) (a0:Za) (a1:Int):Option Bool :=
 cond (a0.Kind == 0) (some (cond ((a0.Words.length:Int) == 0) ((a0.Kids.length:Int) == 0) false)) (cond (a0.Kind == 10) (some (cond ((a0.Words.length:Int) == 1) ((a0.Kids.length:Int) == 0) false)) (cond (cond (cond (cond (cond (cond (decide (a0.Kind < 0)) true (decide (10 < a0.Kind))) true (a1 == 0)) true (decide (65536≤(a0.Words.length:Int)))) true (cond (a0.Kind == 1) (decide (65536≤(a0.Kids.length:Int))) false)) true (decide (1048576≤(a0.Kids.length:Int)))) (some false) (cond (cond (decide (1 < a0.Kind)) (decide (0 < (a0.Words.length:Int))) false) (some false) ((Z4 (Uh Jz a0 a1) 0).bind fun (z28:(Unit ⊕ Unit))=>match z28 with | .inl z28=>some false | .inr z28=>some true))))
noncomputable def J8:Nat→(Za→Int→Option Bool)
 | 0=>(fun _ _=>none)
 | k+1=>Zbr ((J8 k))
noncomputable def U3 (a0:Za) (a1:Int):Option Bool:=lim fun k=>(J8 k) a0 a1
noncomputable def Gs (a0:(List Int)) (s0_:Int):Option (Int ⊕ Int) :=
 (cond (decide (0 < s0_)) ((Xp a0 (IntKind.i64.wrap (s0_ - 1))).bind fun x4=>some (cond (decide (0 < s0_)) (x4 == 0) false)) (some false)).bind fun (z2:Bool)=>cond z2 (some (.inl (IntKind.i64.wrap (s0_ - 1)))) (some (.inr s0_))
noncomputable def Zcx (a0:(List Int)):Option (List Int) :=
 (Z4 (Gs a0) (a0.length:Int)).bind fun (z7:Int)=>(Zlj a0 0 z7).bind fun l10=>(Ziu 8 ([]:List Int) l10).bind fun l11=>some l11
noncomputable def Jw (Ki:(Za→Option Za)) (a0:Za) (s0_:(Int×Int×(List Za))):Option ((Int×Int×(List Za)) ⊕ (Int×(List Za))) :=
 cond (decide (s0_.2.1 < (a0.Kids.length:Int))) (((Xp a0.Kids s0_.2.1).bind fun x4=>(Ki x4).bind fun y5=>(Ziu 56 s0_.2.2 ([y5]:List Za)).bind fun l7=>cond (y5.Kind != 0) (some ((IntKind.i64.wrap (s0_.2.1+1)),l7)) (some (s0_.1,l7))).bind fun (z1:(Int×(List Za)))=>some (.inl (z1.1,(IntKind.i64.wrap (s0_.2.1+1)),z1.2))) (some (.inr (s0_.1,s0_.2.2)))
noncomputable def Zcr (Ki:(Za→Option Za)) (a0:Za):Option Za :=
 cond (a0.Kind == 0) (some (⟨0,[],[]⟩:Za)) ((Z4 (Jw Ki a0) (0,0,([]:List Za))).bind fun (z10:(Int×(List Za)))=>cond (a0.Kind == 1) ((Zcx a0.Words).bind fun y14=>(Zlj z10.2 0 z10.1).bind fun l15=>some (⟨1,y14,l15⟩:Za)) ((Ziu 8 ([]:List Int) a0.Words).bind fun l17=>some (⟨a0.Kind,l17,z10.2⟩:Za)))
noncomputable def Qt:Nat→(Za→Option Za)
 | 0=>(fun _=>none)
 | k+1=>Zcr ((Qt k))
noncomputable def Zft (a0:Za):Option Za:=lim fun k=>(Qt k) a0
noncomputable def Q1 (Jf:(Za→Int→Int→Option Int)) (a0:Za) (a1:Int) (s0_:(Int×Int)):Option ((Int×Int) ⊕ Int) :=
 cond (cond (decide (s0_.2 < (a0.Kids.length:Int))) (decide (0≤s0_.1)) false) ((Xp a0.Kids s0_.2).bind fun x1=>(Jf x1 (IntKind.i64.wrap (a1 - 1)) s0_.1).bind fun y2=>some (.inl (y2,(IntKind.i64.wrap (s0_.2+1))))) (some (.inr s0_.1))
noncomputable def Ja (Jf:(Za→Int→Int→Option Int)) (a0:Za) (a1:Int) (a2:Int):Option Int :=
 cond (cond (a1 == 0) true (decide ((IntKind.i64.wrap ((IntKind.i64.wrap (a2 - 1)) - (a0.Words.length:Int))) < 0))) (some (-1)) ((Z4 (Q1 Jf a0 a1) ((IntKind.i64.wrap ((IntKind.i64.wrap (a2 - 1)) - (a0.Words.length:Int))),0)).bind fun (z4:Int)=>some z4)
noncomputable def Xd:Nat→(Za→Int→Int→Option Int)
 | 0=>(fun _ _ _=>none)
 | k+1=>Ja ((Xd k))
noncomputable def Jy (a0:Za) (a1:Int) (a2:Int):Option Int:=lim fun k=>(Xd k) a0 a1 a2
structure Zz where
 At:Int
 Mask:Int
 Old:Int
 New:Int
mutual
structure Zf where
 Kind:Int
 Old:Za
 New:Za
 Words:(List Zz)
 Kids:(List Zl)
 List_:Int
 Ops:(List Zt)
structure Zl where
 At:Int
 E:Zf
structure Zt where
 Kind:Int
 N:Int
 L:(List Za)
 E:Zf
end
noncomputable def Qn (Qq:(Zf→Int→Int→Option Int)) (a0:Zf) (a1:Int) (s0_:(Int×Int)):Option ((Int×Int) ⊕ Int) :=
 cond (cond (decide (s0_.2 < (a0.Kids.length:Int))) (decide (0≤s0_.1)) false) ((Xp a0.Kids s0_.2).bind fun x6=>(Qq x6.E (IntKind.i64.wrap (a1 - 1)) s0_.1).bind fun y8=>some (.inl (y8,(IntKind.i64.wrap (s0_.2+1))))) (some (.inr s0_.1))
noncomputable def Jb (a0:Zf) (s1_:(Int×Int)) (s2_:(Int×Int)):Option ((Int×Int) ⊕ Int) :=
 (Xp a0.Ops s1_.2).bind fun x14=>cond (cond (decide (s2_.2 < (x14.L.length:Int))) (decide (0≤s2_.1)) false) ((Xp a0.Ops s1_.2).bind fun x16=>(Xp x16.L s2_.2).bind fun x18=>(Jy x18 80 s2_.1).bind fun y19=>some (.inl (y19,(IntKind.i64.wrap (s2_.2+1))))) (some (.inr s2_.1))
noncomputable def Qo (Qq:(Zf→Int→Int→Option Int)) (a0:Zf) (a1:Int) (s1_:(Int×Int)):Option ((Int×Int) ⊕ Int) :=
 cond (cond (decide (s1_.2 < (a0.Ops.length:Int))) (decide (0≤s1_.1)) false) (((Z4 (Jb a0 s1_) (s1_.1,0)).bind fun (z21:Int)=>cond (decide (0≤z21)) ((Xp a0.Ops s1_.2).bind fun x22=>(Qq x22.E (IntKind.i64.wrap (a1 - 1)) z21).bind fun y24=>some y24) (some z21)).bind fun (z11:Int)=>some (.inl (z11,(IntKind.i64.wrap (s1_.2+1))))) (some (.inr s1_.1))
noncomputable def Q4 (Qq:(Zf→Int→Int→Option Int)) (a0:Zf) (a1:Int) (a2:Int):Option Int :=
 cond (cond (a1 == 0) true (decide ((IntKind.i64.wrap ((IntKind.i64.wrap ((IntKind.i64.wrap (a2 - 1)) - (a0.Words.length:Int))) - (a0.Ops.length:Int))) < 0))) (some (-1)) ((Jy a0.Old 80 (IntKind.i64.wrap ((IntKind.i64.wrap ((IntKind.i64.wrap (a2 - 1)) - (a0.Words.length:Int))) - (a0.Ops.length:Int)))).bind fun y2=>(cond (decide (0≤y2)) ((Jy a0.New 80 y2).bind fun y4=>some y4) (some y2)).bind fun (z3:Int)=>(Z4 (Qn Qq a0 a1) (z3,0)).bind fun (z10:Int)=>(Z4 (Qo Qq a0 a1) (z10,0)).bind fun (z27:Int)=>some z27)
noncomputable def Yp:Nat→(Zf→Int→Int→Option Int)
 | 0=>(fun _ _ _=>none)
 | k+1=>Q4 ((Yp k))
noncomputable def Zfv (a0:Zf) (a1:Int) (a2:Int):Option Int:=lim fun k=>(Yp k) a0 a1 a2
noncomputable def U4 (a0:Zf):Option Bool :=
 (Zfv a0 80 3000).bind fun y2=>some (decide (0≤y2))
noncomputable def Kh (a0:Za):Option Bool :=
 some (cond (a0.Kind == 0) ((IntKind.i64.wrap ((a0.Words.length:Int)+(a0.Kids.length:Int))) == 0) false)
noncomputable def Up (s0_:(Int×Int×(Arr Int 8))):Option ((Int×Int×(Arr Int 8)) ⊕ (Arr Int 8)) :=
 cond (decide (s0_.2.1 < 8)) ((Xp s0_.2.2.1 s0_.2.1).bind fun x15=>some (.inl ((IntKind.u64.wrap (Int.tdiv s0_.1 256)),(IntKind.i64.wrap (s0_.2.1+1)),(Arr.put s0_.2.2 s0_.2.1 (IntKind.u8.wrap (Int.tmod s0_.1 256)))))) (some (.inr s0_.2.2))
noncomputable def U2 (a0:Int):Option (Arr Int 8) :=
 ((some (⟨[0,0,0,0,0,0,0,0],rfl⟩:(Arr Int 8)))).bind fun y3=>((some (⟨[0,0,0,0,0,0,0,0],rfl⟩:(Arr Int 8)))).bind fun y9=>(Z4 (Up) (a0,0,y9)).bind fun (z18:(Arr Int 8))=>some z18
noncomputable def Kp (a1:Int) (s0_:(Int×Int)):Option ((Int×Int) ⊕ Int) :=
 cond (decide (s0_.2 < a1)) (some (.inl ((IntKind.u8.wrap (Int.tdiv s0_.1 2)),(IntKind.i64.wrap (s0_.2+1))))) (some (.inr s0_.1))
noncomputable def Zb3 (a0:Int) (a1:Int):Option Bool :=
 (Z4 (Kp a1) (a0,0)).bind fun (z2:Int)=>some ((Int.tmod z2 2) == 1)
noncomputable def Zb4 (a0:(List Int)) (a1:Int) (s0_:(Int×Int)):Option ((Int×Int) ⊕ Int) :=
 cond (decide (0≤s0_.2)) ((Xp a0 (IntKind.i64.wrap (a1+s0_.2))).bind fun x1=>some (.inl ((IntKind.u64.wrap ((IntKind.u64.wrap (s0_.1 * 256))+(IntKind.u64.wrap x1))),(IntKind.i64.wrap (s0_.2 - 1))))) (some (.inr s0_.1))
noncomputable def Zhx (a0:(List Int)) (a1:Int):Option Int :=
 (Z4 (Zb4 a0 a1) (0,7)).bind fun (z3:Int)=>some z3
noncomputable def Za2 (a2:Int) (y9:(Arr Int 8)) (s0_:(Int×(Arr Int 8))):Option ((Int×(Arr Int 8)) ⊕ (Arr Int 8)) :=
 cond (decide (s0_.1 < 8)) (((Zb3 a2 s0_.1).bind fun y17=>cond y17 ((Xp y9.1 s0_.1).bind fun x18=>(Xp s0_.2.1 s0_.1).bind fun x19=>some (Arr.put s0_.2 s0_.1 x18)) (some s0_.2)).bind fun (z15:(Arr Int 8))=>some (.inl ((IntKind.i64.wrap (s0_.1+1)),z15))) (some (.inr s0_.2))
noncomputable def Zdy (a0:Int) (a1:Int) (a2:Int):Option Int :=
 (U2 a0).bind fun y8=>(U2 a1).bind fun y9=>((some (⟨[0,0,0,0,0,0,0,0],rfl⟩:(Arr Int 8)))).bind fun y10=>(Z4 (Za2 a2 y9) (0,y8)).bind fun (z23:(Arr Int 8))=>(Zhx z23.1 0).bind fun y29=>some y29
noncomputable def V7 (a0:Int) (a1:Int):Option Bool :=
 (Zdy a0 0 a1).bind fun y2=>some (y2 == 0)
noncomputable def Zah (a0:Zf):Option Bool :=
 (cond (a0.Kind == 0) ((Kh a0.Old).bind fun y6=>cond y6 ((Kh a0.New).bind fun y7=>some (cond (cond (cond (cond (a0.Kind == 0) y6 false) y7 false) ((IntKind.i64.wrap ((IntKind.i64.wrap ((a0.Words.length:Int)+(a0.Kids.length:Int)))+(a0.Ops.length:Int))) == 0) false) (a0.List_ == 0) false)) (some false)) (some false)).bind fun (z3:Bool)=>some z3
noncomputable def Vf (a0:Zf) (s0_:(Int×Int×Int)):Option ((Int×Int×Int) ⊕ (Int×Int)) :=
 cond (decide (s0_.2.2 < (a0.Ops.length:Int))) (((Xp a0.Ops s0_.2.2).bind fun x3=>(cond (x3.Kind == 3) (some 1) (some (IntKind.i64.wrap (x3.N+(x3.L.length:Int))))).bind fun (z4:Int)=>(cond (x3.Kind != 2) (some (IntKind.i64.wrap (s0_.1+z4))) (some s0_.1)).bind fun (z6:Int)=>(cond (x3.Kind != 1) (some (IntKind.i64.wrap (s0_.2.1+z4))) (some s0_.2.1)).bind fun (z8:Int)=>(cond (decide (1048576 < z6)) (some 1048576) (some z6)).bind fun (z10:Int)=>cond (decide (1048576 < z8)) (some (z10,1048576)) (some (z10,z8))).bind fun (z1:(Int×Int))=>some (.inl (z1.1,z1.2,(IntKind.i64.wrap (s0_.2.2+1))))) (some (.inr (s0_.1,s0_.2.1)))
noncomputable def Ve (a0:Zf):Option (Int×Int) :=
 (Z4 (Vf a0) (0,0,0)).bind fun (z14:(Int×Int))=>some (z14.1,z14.2)
noncomputable def Km (a0:Zf) (s0_:(Int×Int)):Option ((Int×Int) ⊕ (Unit ⊕ Unit)) :=
 cond (decide (s0_.2 < (a0.Words.length:Int))) ((Xp a0.Words s0_.2).bind fun x19=>(cond (decide (x19.At≤s0_.1)) (some true) (cond (decide (65534 < x19.At)) (some true) (cond (x19.Mask == 0) (some true) ((V7 x19.Old x19.Mask).bind fun y25=>cond y25 ((V7 x19.New x19.Mask).bind fun y26=>some (cond (cond (cond (cond (decide (x19.At≤s0_.1)) true (decide (65534 < x19.At))) true (x19.Mask == 0)) true (!y25)) true (!y26))) (some true))))).bind fun (z22:Bool)=>cond z22 (some (.inr (.inl ()))) (some (.inl (x19.At,(IntKind.i64.wrap (s0_.2+1)))))) (some (.inr (.inr ())))
noncomputable def Ko (Xr:(Zf→Int→Option Bool)) (a0:Zf) (a1:Int) (s1_:(Int×Int)):Option ((Int×Int) ⊕ (Unit ⊕ Unit)) :=
 cond (decide (s1_.2 < (a0.Kids.length:Int))) ((Xp a0.Kids s1_.2).bind fun x35=>(cond (decide (x35.At≤s1_.1)) (some true) (cond (decide (65534 < x35.At)) (some true) (cond (x35.E.Kind == 0) (some true) ((Xr x35.E (IntKind.i64.wrap (a1 - 1))).bind fun y39=>some (cond (cond (cond (decide (x35.At≤s1_.1)) true (decide (65534 < x35.At))) true (x35.E.Kind == 0)) true (!y39)))))).bind fun (z37:Bool)=>cond z37 (some (.inr (.inl ()))) (some (.inl (x35.At,(IntKind.i64.wrap (s1_.2+1)))))) (some (.inr (.inr ())))
noncomputable def Jq (Qz:(Int→Zt→Int→Option Bool)) (a0:Zf) (a1:Int) (s2_:Int):Option (Int ⊕ (Unit ⊕ Unit)) :=
 cond (decide (s2_ < (a0.Ops.length:Int))) ((Xp a0.Ops s2_).bind fun x48=>(Qz a0.List_ x48 (IntKind.i64.wrap (a1 - 1))).bind fun y49=>cond (!y49) (some (.inr (.inl ()))) (some (.inl (IntKind.i64.wrap (s2_+1))))) (some (.inr (.inr ())))
noncomputable def Zbu (Xr:(Zf→Int→Option Bool)) (Qz:(Int→Zt→Int→Option Bool)) (a0:Zf) (a1:Int):Option Bool :=
 cond (cond (cond (a1 == 0) true (decide (a0.Kind < 0))) true (decide (3 < a0.Kind))) (some false) ((cond (a0.Kind != 1) ((Kh a0.Old).bind fun y6=>cond y6 ((Kh a0.New).bind fun y7=>some (cond (cond (cond (a0.Kind != 1) (!(cond y6 y7 false)) false) true (cond (a0.Kind != 2) (decide (0 < (IntKind.i64.wrap ((a0.Words.length:Int)+(a0.Kids.length:Int))))) false)) true (cond (a0.Kind != 3) (cond (a0.List_ != 0) true (decide (0 < (a0.Ops.length:Int)))) false))) (some true)) (some (cond (cond (a0.Kind != 2) (decide (0 < (IntKind.i64.wrap ((a0.Words.length:Int)+(a0.Kids.length:Int))))) false) true (cond (a0.Kind != 3) (cond (a0.List_ != 0) true (decide (0 < (a0.Ops.length:Int)))) false)))).bind fun (z3:Bool)=>cond z3 (some false) (cond (a0.Kind == 1) (((U3 a0.Old 64).bind fun y15=>cond y15 ((U3 a0.New 64).bind fun y16=>some (cond (cond (cond y15 y16 false) (a0.Old.Kind != 10) false) (a0.New.Kind != 10) false)) (some false)).bind fun (z12:Bool)=>some z12) ((Z4 (Km a0) ((-1),0)).bind fun (z33:(Unit ⊕ Unit))=>match z33 with | .inl z33=>some false | .inr z33=>(Z4 (Ko Xr a0 a1) ((-1),0)).bind fun (z45:(Unit ⊕ Unit))=>match z45 with | .inl z45=>some false | .inr z45=>cond (cond (a0.Kind == 3) (cond (decide (a0.List_ < 2)) true (decide (9 < a0.List_))) false) (some false) ((Z4 (Jq Qz a0 a1) 0).bind fun (z52:(Unit ⊕ Unit))=>match z52 with | .inl z52=>some false | .inr z52=>(Ve a0).bind fun y54=>some (cond (decide (y54.1 < 1048576)) (decide (y54.2 < 1048576)) false)))))
noncomputable def Zbv (a0:Int) (a1:Zt) (s0_:Int):Option (Int ⊕ (Unit ⊕ Unit)) :=
 cond (decide (s0_ < (a1.L.length:Int))) ((Zlj a1.L s0_ (IntKind.i64.wrap (s0_+1))).bind fun l10=>(U3 (⟨a0,[],l10⟩:Za) 64).bind fun y11=>cond (!y11) (some (.inr (.inl ()))) (some (.inl (IntKind.i64.wrap (s0_+1))))) (some (.inr (.inr ())))
noncomputable def Zes (Xr:(Zf→Int→Option Bool)) (Qz:(Int→Zt→Int→Option Bool)) (a0:Int) (a1:Zt) (a2:Int):Option Bool :=
 cond (a1.Kind == 0) ((cond (decide (1≤a1.N)) (cond (decide (a1.N≤1048576)) (cond ((a1.L.length:Int) == 0) ((Zah a1.E).bind fun y4=>some (cond (cond (cond (decide (1≤a1.N)) (decide (a1.N≤1048576)) false) ((a1.L.length:Int) == 0) false) y4 false)) (some false)) (some false)) (some false)).bind fun (z2:Bool)=>some z2) (cond (cond (cond (a1.N != 0) true (decide (a1.Kind < 0))) true (decide (3 < a1.Kind))) (some false) (cond (decide (a1.Kind < 3)) ((Z4 (Zbv a0 a1) 0).bind fun (z14:(Unit ⊕ Unit))=>match z14 with | .inl z14=>some false | .inr z14=>(cond (decide (0 < (a1.L.length:Int))) ((Zah a1.E).bind fun y18=>some (cond (decide (0 < (a1.L.length:Int))) y18 false)) (some false)).bind fun (z16:Bool)=>some z16) ((cond (decide (0 < (a1.L.length:Int))) (some true) (cond (a1.E.Kind == 0) (some true) (cond (decide (a0≤7)) (some true) ((Xr a1.E a2).bind fun y23=>some (cond (cond (cond (decide (0 < (a1.L.length:Int))) true (a1.E.Kind == 0)) true (decide (a0≤7))) true (!y23)))))).bind fun (z21:Bool)=>cond z21 (some false) (some (cond (cond (a0 == 8) true (a1.E.Kind == 2)) true (cond (cond (a1.E.Kind == 1) (a1.E.Old.Kind == 1) false) (a1.E.New.Kind == 1) false))))))
noncomputable def Y7:Nat→((Zf→Int→Option Bool)×(Int→Zt→Int→Option Bool))
 | 0=>((fun _ _=>none),(fun _ _ _=>none))
 | k+1=>(Zbu ((Y7 k).1) ((Y7 k).2),Zes ((Y7 k).1) ((Y7 k).2))
noncomputable def Zh9 (a0:Zf) (a1:Int):Option Bool:=lim fun k=>(Y7 k).1 a0 a1
noncomputable def Ul (Qe:(Zf→Option Bool)) (a0:Zf) (s0_:Int):Option (Int ⊕ (Unit ⊕ Unit)) :=
 cond (decide (s0_ < (a0.Kids.length:Int))) ((Xp a0.Kids s0_).bind fun x6=>(Qe x6.E).bind fun y8=>cond (!y8) (some (.inr (.inl ()))) (some (.inl (IntKind.i64.wrap (s0_+1))))) (some (.inr (.inr ())))
noncomputable def Um (Qe:(Zf→Option Bool)) (a0:Zf) (s1_:Int):Option (Int ⊕ (Unit ⊕ Unit)) :=
 cond (decide (s1_ < (a0.Ops.length:Int))) ((Xp a0.Ops s1_).bind fun x15=>(Qe x15.E).bind fun y17=>cond (!y17) (some (.inr (.inl ()))) (some (.inl (IntKind.i64.wrap (s1_+1))))) (some (.inr (.inr ())))
noncomputable def Zbt (Qe:(Zf→Option Bool)) (a0:Zf):Option Bool :=
 (Ve a0).bind fun y2=>cond (cond (decide (2000 < y2.1)) true (decide (2000 < y2.2))) (some false) ((Z4 (Ul Qe a0) 0).bind fun (z11:(Unit ⊕ Unit))=>match z11 with | .inl z11=>some false | .inr z11=>(Z4 (Um Qe a0) 0).bind fun (z20:(Unit ⊕ Unit))=>match z20 with | .inl z20=>some false | .inr z20=>some true)
noncomputable def Ka:Nat→(Zf→Option Bool)
 | 0=>(fun _=>none)
 | k+1=>Zbt ((Ka k))
noncomputable def Zh8 (a0:Zf):Option Bool:=lim fun k=>(Ka k) a0
noncomputable def Zcy (a0:Zf):Option Bool :=
 ((U4 a0).bind fun y8=>cond y8 ((Zh9 a0 64).bind fun y9=>cond y9 ((Zh8 a0).bind fun y10=>some (cond (cond y8 y9 false) y10 false)) (some false)) (some false)).bind fun (z4:Bool)=>some z4
noncomputable def Zbo (a0:Za):Option Bool :=
 some (cond (a0.Kind != 0) true (decide (0 < (IntKind.i64.wrap ((a0.Words.length:Int)+(a0.Kids.length:Int))))))
noncomputable def Gu (a0:Bool) (a1:Bool) (a2:Bool) (a3:Zf):Option Bool :=
 (cond a0 ((Zbo a3.Old).bind fun y6=>cond y6 (some false) ((Zbo a3.New).bind fun y7=>some (cond (cond (!(cond a0 (cond y6 true y7) false)) (!(cond a1 (decide (0 < (IntKind.i64.wrap ((a3.Words.length:Int)+(a3.Kids.length:Int))))) false)) false) (!(cond a2 (cond (a3.List_ != 0) true (decide (0 < (a3.Ops.length:Int)))) false)) false))) (some (cond (!(cond a1 (decide (0 < (IntKind.i64.wrap ((a3.Words.length:Int)+(a3.Kids.length:Int))))) false)) (!(cond a2 (cond (a3.List_ != 0) true (decide (0 < (a3.Ops.length:Int)))) false)) false))).bind fun (z3:Bool)=>some z3
noncomputable def Zf9 (a0:Int):Option Bool :=
 some (cond (decide (2≤a0)) (decide (a0≤9)) false)
noncomputable def Gy (a0:(List Za)) (s0_:Int):Option (Int ⊕ (Unit ⊕ Unit)) :=
 cond (decide (s0_ < (a0.length:Int))) ((Xp a0 s0_).bind fun x2=>cond (x2.Kind != 1) (some (.inr (.inl ()))) (some (.inl (IntKind.i64.wrap (s0_+1))))) (some (.inr (.inr ())))
noncomputable def Zc4 (a0:(List Za)):Option Bool :=
 (Z4 (Gy a0) 0).bind fun (z5:(Unit ⊕ Unit))=>match z5 with | .inl z5=>some false | .inr z5=>some true
noncomputable def Zbg (a0:Int):Option (Int×Bool) :=
 ((some (⟨[0,1,8,16,32,64],rfl⟩:(Arr Int 6)))).bind fun y6=>((some (⟨[0,0,0,0,0,0],rfl⟩:(Arr Int 6)))).bind fun y8=>cond (cond (decide (a0 < 0)) true (decide (6≤a0))) (some (0,false)) ((Xp y6.1 a0).bind fun x12=>some (x12,true))
noncomputable def Zij (a0:Int) (a1:Int):Option Bool :=
 (Zbg a0).bind fun y2=>(cond y2.2 ((Uc (0≤y2.1)).bind fun u6=>some (cond y2.2 ((Int.fdiv a1 (2 ^ min (Int.toNat y2.1) 64)) == 0) false)) (some false)).bind fun (z4:Bool)=>some z4
noncomputable def Ziz (X1:(Za→Option Bool)) (Xt:(Za→Int→Option Bool)) (Xc:((List Za)→Int→Option Bool)) (Xg:((List Za)→Int→Option Bool)) (a0:Za):Option Bool :=
 cond (a0.Kind == 10) (some (cond ((a0.Words.length:Int) == 1) ((a0.Kids.length:Int) == 0) false)) ((Xt a0 64).bind fun y2=>some y2)
noncomputable def Zi0 (X1:(Za→Option Bool)) (Xt:(Za→Int→Option Bool)) (Xc:((List Za)→Int→Option Bool)) (Xg:((List Za)→Int→Option Bool)) (a0:Za) (a1:Int):Option Bool :=
 cond (a0.Kind == 0) (some (cond ((a0.Words.length:Int) == 0) ((a0.Kids.length:Int) == 0) false)) (cond (a1 == 0) (some false) (cond (a0.Kind == 1) ((cond (decide ((a0.Words.length:Int) < 65536)) (cond (decide ((a0.Kids.length:Int) < 65536)) ((Xc a0.Kids (IntKind.i64.wrap (a1 - 1))).bind fun y4=>some (cond (cond (decide ((a0.Words.length:Int) < 65536)) (decide ((a0.Kids.length:Int) < 65536)) false) y4 false)) (some false)) (some false)).bind fun (z2:Bool)=>some z2) ((Zf9 a0.Kind).bind fun y8=>cond (cond (cond (!y8) true (decide (0 < (a0.Words.length:Int)))) true (decide (1048576≤(a0.Kids.length:Int)))) (some false) (cond (a0.Kind == 8) ((Xc a0.Kids (IntKind.i64.wrap (a1 - 1))).bind fun y10=>some y10) (cond (a0.Kind == 9) (((Zc4 a0.Kids).bind fun y16=>cond y16 ((Xc a0.Kids (IntKind.i64.wrap (a1 - 1))).bind fun y17=>some (cond y16 y17 false)) (some false)).bind fun (z13:Bool)=>some z13) ((Xg a0.Kids (IntKind.i64.wrap (a0.Kind - 2))).bind fun y20=>some y20))))))
noncomputable def Zb0 (Xt:(Za→Int→Option Bool)) (a0:(List Za)) (a1:Int) (s0_:Int):Option (Int ⊕ (Unit ⊕ Unit)) :=
 cond (decide (s0_ < (a0.length:Int))) ((Xp a0 s0_).bind fun x2=>(Xt x2 a1).bind fun y4=>cond (!y4) (some (.inr (.inl ()))) (some (.inl (IntKind.i64.wrap (s0_+1))))) (some (.inr (.inr ())))
noncomputable def Zex (X1:(Za→Option Bool)) (Xt:(Za→Int→Option Bool)) (Xc:((List Za)→Int→Option Bool)) (Xg:((List Za)→Int→Option Bool)) (a0:(List Za)) (a1:Int):Option Bool :=
 (Z4 (Zb0 Xt a0 a1) 0).bind fun (z7:(Unit ⊕ Unit))=>match z7 with | .inl z7=>some false | .inr z7=>some true
noncomputable def Zbz (X1:(Za→Option Bool)) (a0:(List Za)) (a1:Int) (s0_:Int):Option (Int ⊕ (Unit ⊕ Unit)) :=
 cond (decide (s0_ < (a0.length:Int))) ((Xp a0 s0_).bind fun x2=>(cond (x2.Kind != 10) (some true) ((X1 x2).bind fun y10=>cond y10 ((Xp x2.Words 0).bind fun x11=>(Zij a1 x11).bind fun y12=>some (cond (cond (x2.Kind != 10) true (!y10)) true (!y12))) (some true))).bind fun (z6:Bool)=>cond z6 (some (.inr (.inl ()))) (some (.inl (IntKind.i64.wrap (s0_+1))))) (some (.inr (.inr ())))
noncomputable def Zew (X1:(Za→Option Bool)) (Xt:(Za→Int→Option Bool)) (Xc:((List Za)→Int→Option Bool)) (Xg:((List Za)→Int→Option Bool)) (a0:(List Za)) (a1:Int):Option Bool :=
 (Z4 (Zbz X1 a0 a1) 0).bind fun (z17:(Unit ⊕ Unit))=>match z17 with | .inl z17=>some false | .inr z17=>some true
noncomputable def Z7:Nat→((Za→Option Bool)×(Za→Int→Option Bool)×((List Za)→Int→Option Bool)×((List Za)→Int→Option Bool))
 | 0=>((fun _=>none),(fun _ _=>none),(fun _ _=>none),(fun _ _=>none))
 | k+1=>(Ziz ((Z7 k).1) ((Z7 k).2.1) ((Z7 k).2.2.1) ((Z7 k).2.2.2),Zi0 ((Z7 k).1) ((Z7 k).2.1) ((Z7 k).2.2.1) ((Z7 k).2.2.2),Zex ((Z7 k).1) ((Z7 k).2.1) ((Z7 k).2.2.1) ((Z7 k).2.2.2),Zew ((Z7 k).1) ((Z7 k).2.1) ((Z7 k).2.2.1) ((Z7 k).2.2.2))
noncomputable def Zjf (a0:Za):Option Bool:=lim fun k=>(Z7 k).1 a0
noncomputable def Zgx (a0:Za):Option Bool :=
 (cond (a0.Kind != 10) ((Zjf a0).bind fun y4=>some (cond (a0.Kind != 10) y4 false)) (some false)).bind fun (z2:Bool)=>some z2
noncomputable def Zgc (a0:Int) (s0_:(Int×Int)):Option ((Int×Int) ⊕ Int) :=
 cond (decide (s0_.2 < 8)) (((Uc (0≤s0_.2)).bind fun u3=>cond ((IntKind.u8.wrap (Qj .u8 (Int.fdiv a0 (2 ^ min (Int.toNat s0_.2) 8)) 1)) == 1) ((Uc (0≤(IntKind.i64.wrap (8 * s0_.2)))).bind fun u4=>some (IntKind.u64.wrap (Zdx .u64 s0_.1 (IntKind.u64.wrap (255 * 2 ^ min (Int.toNat (IntKind.i64.wrap (8 * s0_.2))) 64))))) (some s0_.1)).bind fun (z1:Int)=>some (.inl (z1,(IntKind.i64.wrap (s0_.2+1))))) (some (.inr s0_.1))
noncomputable def Zil (a0:Int):Option Int :=
 (Z4 (Zgc a0) (0,0)).bind fun (z7:Int)=>some z7
noncomputable def Gt (a0:(List Zz)) (s0_:(Int×Int)):Option ((Int×Int) ⊕ (Unit ⊕ Unit)) :=
 cond (decide (s0_.2 < (a0.length:Int))) ((Xp a0 s0_.2).bind fun x2=>(Zil x2.Mask).bind fun y4=>cond (cond (cond (cond (cond (decide (x2.At≤s0_.1)) true (decide (65534 < x2.At))) true (x2.Mask == 0)) true ((IntKind.u64.wrap (Qj .u64 x2.Old (IntKind.u64.wrap (Zq9 .u64 (if IntKind.signed .u64=true then -1 else IntKind.max .u64) y4)))) != 0)) true ((IntKind.u64.wrap (Qj .u64 x2.New (IntKind.u64.wrap (Zq9 .u64 (if IntKind.signed .u64=true then -1 else IntKind.max .u64) y4)))) != 0)) (some (.inr (.inl ()))) (some (.inl (x2.At,(IntKind.i64.wrap (s0_.2+1)))))) (some (.inr (.inr ())))
noncomputable def Zc0 (a0:(List Zz)):Option Bool :=
 (Z4 (Gt a0) ((-1),0)).bind fun (z7:(Unit ⊕ Unit))=>match z7 with | .inl z7=>some false | .inr z7=>some true
noncomputable def Ze1 (a0:Int) (a1:Zf):Option Bool :=
 cond (a0 == 8) (some (a1.Kind != 0)) (cond (a0 == 9) (some (cond (a1.Kind == 2) true (cond (cond (a1.Kind == 1) (a1.Old.Kind == 1) false) (a1.New.Kind == 1) false))) (some false))
noncomputable def Zdz (a0:Zt):Option Int :=
 cond (a0.Kind == 0) (some (if 1048576 < (if a0.N < 0 then 0 else a0.N) then 1048576 else (if a0.N < 0 then 0 else a0.N))) ((cond (a0.Kind == 1) (some (a0.Kind == 1)) (some (a0.Kind == 2))).bind fun (z1:Bool)=>cond z1 (some (a0.L.length:Int)) (cond (a0.Kind == 3) (some 1) (some 0)))
noncomputable def Zcz (a0:Zf) (s0_:(Int×Int×Int)):Option ((Int×Int×Int) ⊕ (Int×Int)) :=
 cond (decide (s0_.2.2 < (a0.Ops.length:Int))) (((Xp a0.Ops s0_.2.2).bind fun x3=>(cond (x3.Kind != 2) ((Zdz x3).bind fun y5=>some (if 1048576 < (IntKind.i64.wrap (s0_.1+y5)) then 1048576 else (IntKind.i64.wrap (s0_.1+y5)))) (some s0_.1)).bind fun (z4:Int)=>cond (x3.Kind != 1) ((Zdz x3).bind fun y7=>some (z4,(if 1048576 < (IntKind.i64.wrap (s0_.2.1+y7)) then 1048576 else (IntKind.i64.wrap (s0_.2.1+y7))))) (some (z4,s0_.2.1))).bind fun (z1:(Int×Int))=>some (.inl (z1.1,z1.2,(IntKind.i64.wrap (s0_.2.2+1))))) (some (.inr (s0_.1,s0_.2.1)))
noncomputable def Zf6 (a0:Zf):Option (Int×Int) :=
 (Z4 (Zcz a0) (0,0,0)).bind fun (z10:(Int×Int))=>some (z10.1,z10.2)
noncomputable def Ziv (Y9:(Zf→Option Bool)) (Y3:(Zf→Int→Option Bool)) (Yh:((List Zl)→Int→Option Bool)) (Yq:(Zf→Int→Option Bool)) (Yr:(Int→Zt→Int→Option Bool)) (Ye:(Bool→Bool→Bool→Zt→Option Bool)) (a0:Zf):Option Bool :=
 (Y3 a0 64).bind fun y2=>some y2
noncomputable def Ziw (Y9:(Zf→Option Bool)) (Y3:(Zf→Int→Option Bool)) (Yh:((List Zl)→Int→Option Bool)) (Yq:(Zf→Int→Option Bool)) (Yr:(Int→Zt→Int→Option Bool)) (Ye:(Bool→Bool→Bool→Zt→Option Bool)) (a0:Zf) (a1:Int):Option Bool :=
 cond (a1 == 0) (some false) (cond (a0.Kind == 0) ((Gu true true true a0).bind fun y2=>some y2) (cond (a0.Kind == 1) (((Gu false true true a0).bind fun y10=>cond y10 ((Zgx a0.Old).bind fun y11=>cond y11 ((Zgx a0.New).bind fun y12=>some (cond (cond y10 y11 false) y12 false)) (some false)) (some false)).bind fun (z6:Bool)=>some z6) (cond (a0.Kind == 2) (((Gu true false true a0).bind fun y22=>cond y22 ((Zc0 a0.Words).bind fun y23=>cond y23 ((Yh a0.Kids (IntKind.i64.wrap (a1 - 1))).bind fun y24=>some (cond (cond y22 y23 false) y24 false)) (some false)) (some false)).bind fun (z18:Bool)=>some z18) (cond (a0.Kind == 3) (((Gu true true false a0).bind fun y32=>cond y32 ((Yq a0 (IntKind.i64.wrap (a1 - 1))).bind fun y33=>some (cond y32 y33 false)) (some false)).bind fun (z29:Bool)=>some z29) (some false)))))
noncomputable def Zax (Y3:(Zf→Int→Option Bool)) (a0:(List Zl)) (a1:Int) (s0_:(Int×Int)):Option ((Int×Int) ⊕ (Unit ⊕ Unit)) :=
 cond (decide (s0_.2 < (a0.length:Int))) ((Xp a0 s0_.2).bind fun x2=>(cond (decide (x2.At≤s0_.1)) (some true) (cond (decide (65534 < x2.At)) (some true) (cond (x2.E.Kind == 0) (some true) ((Y3 x2.E a1).bind fun y6=>some (cond (cond (cond (decide (x2.At≤s0_.1)) true (decide (65534 < x2.At))) true (x2.E.Kind == 0)) true (!y6)))))).bind fun (z4:Bool)=>cond z4 (some (.inr (.inl ()))) (some (.inl (x2.At,(IntKind.i64.wrap (s0_.2+1)))))) (some (.inr (.inr ())))
noncomputable def Zdo (Y9:(Zf→Option Bool)) (Y3:(Zf→Int→Option Bool)) (Yh:((List Zl)→Int→Option Bool)) (Yq:(Zf→Int→Option Bool)) (Yr:(Int→Zt→Int→Option Bool)) (Ye:(Bool→Bool→Bool→Zt→Option Bool)) (a0:(List Zl)) (a1:Int):Option Bool :=
 (Z4 (Zax Y3 a0 a1) ((-1),0)).bind fun (z12:(Unit ⊕ Unit))=>match z12 with | .inl z12=>some false | .inr z12=>some true
noncomputable def Zbw (Yr:(Int→Zt→Int→Option Bool)) (a0:Zf) (a1:Int) (s0_:Int):Option (Int ⊕ (Unit ⊕ Unit)) :=
 cond (decide (s0_ < (a0.Ops.length:Int))) ((Xp a0.Ops s0_).bind fun x4=>(Yr a0.List_ x4 a1).bind fun y6=>cond (!y6) (some (.inr (.inl ()))) (some (.inl (IntKind.i64.wrap (s0_+1))))) (some (.inr (.inr ())))
noncomputable def Zet (Y9:(Zf→Option Bool)) (Y3:(Zf→Int→Option Bool)) (Yh:((List Zl)→Int→Option Bool)) (Yq:(Zf→Int→Option Bool)) (Yr:(Int→Zt→Int→Option Bool)) (Ye:(Bool→Bool→Bool→Zt→Option Bool)) (a0:Zf) (a1:Int):Option Bool :=
 (Zf9 a0.List_).bind fun y2=>cond (!y2) (some false) ((Z4 (Zbw Yr a0 a1) 0).bind fun (z9:(Unit ⊕ Unit))=>match z9 with | .inl z9=>some false | .inr z9=>(Zf6 a0).bind fun y11=>some (cond (decide (y11.1 < 1048576)) (decide (y11.2 < 1048576)) false))
noncomputable def Zfw (Y9:(Zf→Option Bool)) (Y3:(Zf→Int→Option Bool)) (Yh:((List Zl)→Int→Option Bool)) (Yq:(Zf→Int→Option Bool)) (Yr:(Int→Zt→Int→Option Bool)) (Ye:(Bool→Bool→Bool→Zt→Option Bool)) (a0:Int) (a1:Zt) (a2:Int):Option Bool :=
 (cond (a1.Kind == 0) ((Ye false true true a1).bind fun y3=>some (.inr (.inl (cond (cond y3 (decide (1≤a1.N)) false) (decide (a1.N≤1048576)) false)))) (cond (a1.Kind == 1) (some (.inl ())) (cond (a1.Kind == 2) (some (.inl ())) (cond (a1.Kind == 3) (some (.inr (.inr (.inl ())))) (some (.inr (.inr (.inr ())))))))).bind fun (z1:(Unit ⊕ (Bool ⊕ (Unit ⊕ Unit))))=>match z1 with | .inl z1=>((Ye true false true a1).bind fun y13=>cond y13 (cond (decide (0 < (a1.L.length:Int))) ((Zjf (⟨a0,[],a1.L⟩:Za)).bind fun y14=>some (cond (cond y13 (decide (0 < (a1.L.length:Int))) false) y14 false)) (some false)) (some false)).bind fun (z10:Bool)=>some z10 | .inr z1=>match z1 with | .inl z1=>some z1 | .inr z1=>match z1 with | .inl z1=>((Ye true true false a1).bind fun y24=>cond y24 ((Ze1 a0 a1.E).bind fun y25=>cond y25 ((Y3 a1.E a2).bind fun y26=>some (cond (cond y24 y25 false) y26 false)) (some false)) (some false)).bind fun (z20:Bool)=>some z20 | .inr z1=>some false
noncomputable def Zdp (Y9:(Zf→Option Bool)) (Y3:(Zf→Int→Option Bool)) (Yh:((List Zl)→Int→Option Bool)) (Yq:(Zf→Int→Option Bool)) (Yr:(Int→Zt→Int→Option Bool)) (Ye:(Bool→Bool→Bool→Zt→Option Bool)) (a0:Bool) (a1:Bool) (a2:Bool) (a3:Zt):Option Bool :=
 (cond a0 (cond (a3.N != 0) (some false) (cond a1 (cond (decide (0 < (a3.L.length:Int))) (some false) (cond a2 (cond (a3.E.Kind != 0) (some (cond (cond (!(cond a0 (a3.N != 0) false)) (!(cond a1 (decide (0 < (a3.L.length:Int))) false)) false) (!(cond a2 true false)) false)) ((Y9 a3.E).bind fun y10=>some (cond (cond (!(cond a0 (a3.N != 0) false)) (!(cond a1 (decide (0 < (a3.L.length:Int))) false)) false) (!(cond a2 (cond (a3.E.Kind != 0) true (!y10)) false)) false))) (some (cond (cond (!(cond a0 (a3.N != 0) false)) (!(cond a1 (decide (0 < (a3.L.length:Int))) false)) false) true false)))) (cond a2 (cond (a3.E.Kind != 0) (some (cond (cond (!(cond a0 (a3.N != 0) false)) (!(cond a1 (decide (0 < (a3.L.length:Int))) false)) false) (!(cond a2 true false)) false)) ((Y9 a3.E).bind fun y11=>some (cond (cond (!(cond a0 (a3.N != 0) false)) (!(cond a1 (decide (0 < (a3.L.length:Int))) false)) false) (!(cond a2 (cond (a3.E.Kind != 0) true (!y11)) false)) false))) (some (cond (cond (!(cond a0 (a3.N != 0) false)) (!(cond a1 (decide (0 < (a3.L.length:Int))) false)) false) true false))))) (cond a1 (cond (decide (0 < (a3.L.length:Int))) (some false) (cond a2 (cond (a3.E.Kind != 0) (some (cond (cond (!(cond a0 (a3.N != 0) false)) (!(cond a1 (decide (0 < (a3.L.length:Int))) false)) false) (!(cond a2 true false)) false)) ((Y9 a3.E).bind fun y12=>some (cond (cond (!(cond a0 (a3.N != 0) false)) (!(cond a1 (decide (0 < (a3.L.length:Int))) false)) false) (!(cond a2 (cond (a3.E.Kind != 0) true (!y12)) false)) false))) (some (cond (cond (!(cond a0 (a3.N != 0) false)) (!(cond a1 (decide (0 < (a3.L.length:Int))) false)) false) true false)))) (cond a2 (cond (a3.E.Kind != 0) (some (cond (cond (!(cond a0 (a3.N != 0) false)) (!(cond a1 (decide (0 < (a3.L.length:Int))) false)) false) (!(cond a2 true false)) false)) ((Y9 a3.E).bind fun y13=>some (cond (cond (!(cond a0 (a3.N != 0) false)) (!(cond a1 (decide (0 < (a3.L.length:Int))) false)) false) (!(cond a2 (cond (a3.E.Kind != 0) true (!y13)) false)) false))) (some (cond (cond (!(cond a0 (a3.N != 0) false)) (!(cond a1 (decide (0 < (a3.L.length:Int))) false)) false) true false))))).bind fun (z5:Bool)=>some z5
noncomputable def Zr:Nat→((Zf→Option Bool)×(Zf→Int→Option Bool)×((List Zl)→Int→Option Bool)×(Zf→Int→Option Bool)×(Int→Zt→Int→Option Bool)×(Bool→Bool→Bool→Zt→Option Bool))
 | 0=>((fun _=>none),(fun _ _=>none),(fun _ _=>none),(fun _ _=>none),(fun _ _ _=>none),(fun _ _ _ _=>none))
 | k+1=>(Ziv ((Zr k).1) ((Zr k).2.1) ((Zr k).2.2.1) ((Zr k).2.2.2.1) ((Zr k).2.2.2.2.1) ((Zr k).2.2.2.2.2),Ziw ((Zr k).1) ((Zr k).2.1) ((Zr k).2.2.1) ((Zr k).2.2.2.1) ((Zr k).2.2.2.2.1) ((Zr k).2.2.2.2.2),Zdo ((Zr k).1) ((Zr k).2.1) ((Zr k).2.2.1) ((Zr k).2.2.2.1) ((Zr k).2.2.2.2.1) ((Zr k).2.2.2.2.2),Zet ((Zr k).1) ((Zr k).2.1) ((Zr k).2.2.1) ((Zr k).2.2.2.1) ((Zr k).2.2.2.2.1) ((Zr k).2.2.2.2.2),Zfw ((Zr k).1) ((Zr k).2.1) ((Zr k).2.2.1) ((Zr k).2.2.2.1) ((Zr k).2.2.2.2.1) ((Zr k).2.2.2.2.2),Zdp ((Zr k).1) ((Zr k).2.1) ((Zr k).2.2.1) ((Zr k).2.2.2.1) ((Zr k).2.2.2.2.1) ((Zr k).2.2.2.2.2))
noncomputable def Zls (a0:Zf):Option Bool:=lim fun k=>(Zr k).1 a0
noncomputable def V0 (a0:(List Int)) (a1:(List Za)):Option Za :=
 some (⟨1,a0,a1⟩:Za)
noncomputable def Zf8 (a0:(List Za)):Option Za :=
 cond ((a0.length:Int) == 0) (some (⟨0,[],[]⟩:Za)) (some (⟨9,[],a0⟩:Za))
noncomputable def Gx (a0:(List Zz)) (s0_:(Int×(List Za))):Option ((Int×(List Za)) ⊕ (List Za)) :=
 cond (decide (s0_.1 < (a0.length:Int))) ((Xp a0 s0_.1).bind fun x2=>(V0 ([(IntKind.u64.wrap (Zdx .u64 (IntKind.u64.wrap x2.At) (IntKind.u64.wrap ((IntKind.u64.wrap x2.Mask) * 2 ^ min (Int.toNat 32) 64)))),x2.Old,x2.New]:List Int) ([]:(List Za))).bind fun y3=>(Ziu 56 s0_.2 ([y3]:List Za)).bind fun l4=>some (.inl ((IntKind.i64.wrap (s0_.1+1)),l4))) (some (.inr s0_.2))
noncomputable def Zc2 (a0:(List Zz)):Option Za :=
 (Z4 (Gx a0) (0,([]:List Za))).bind fun (z6:(List Za))=>(Zf8 z6).bind fun y8=>some y8
noncomputable def Zix (X7:(Zf→Option Za)) (Xz:((List Zl)→Option Za)) (Qb:(Int→(List Zt)→Option Za)) (a0:Zf):Option Za :=
 cond (a0.Kind == 1) ((V0 ([(IntKind.u64.wrap a0.Kind)]:List Int) ([a0.Old,a0.New]:List Za)).bind fun y2=>some y2) (cond (a0.Kind == 2) ((Zc2 a0.Words).bind fun y51=>(Xz a0.Kids).bind fun y87=>(V0 ([(IntKind.u64.wrap a0.Kind)]:List Int) ([y51,y87]:List Za)).bind fun y111=>some y111) (cond (a0.Kind == 3) ((Qb a0.List_ a0.Ops).bind fun y267=>(V0 ([(IntKind.u64.wrap (Zdx .u64 (IntKind.u64.wrap a0.Kind) (IntKind.u64.wrap ((IntKind.u64.wrap a0.List_) * 2 ^ min (Int.toNat 8) 64))))]:List Int) ([y267]:List Za)).bind fun y291=>some y291) (some (⟨0,[],[]⟩:Za))))
noncomputable def Zay (X7:(Zf→Option Za)) (a0:(List Zl)) (s0_:(Int×(List Za))):Option ((Int×(List Za)) ⊕ (List Za)) :=
 cond (decide (s0_.1 < (a0.length:Int))) ((Xp a0 s0_.1).bind fun x2=>(X7 x2.E).bind fun y87=>(V0 ([(IntKind.u64.wrap x2.At)]:List Int) ([y87]:List Za)).bind fun y111=>(Ziu 56 s0_.2 ([y111]:List Za)).bind fun l135=>some (.inl ((IntKind.i64.wrap (s0_.1+1)),l135))) (some (.inr s0_.2))
noncomputable def Zdq (X7:(Zf→Option Za)) (Xz:((List Zl)→Option Za)) (Qb:(Int→(List Zt)→Option Za)) (a0:(List Zl)):Option Za :=
 (Z4 (Zay X7 a0) (0,([]:List Za))).bind fun (z160:(List Za))=>(Zf8 z160).bind fun y162=>some y162
noncomputable def Zbx (X7:(Zf→Option Za)) (a0:Int) (a1:(List Zt)) (s0_:(Int×(List Za))):Option ((Int×(List Za)) ⊕ (List Za)) :=
 cond (decide (s0_.1 < (a1.length:Int))) (((Xp a1 s0_.1).bind fun x3=>cond (x3.Kind == 0) ((V0 ([(IntKind.u64.wrap (Zdx .u64 (IntKind.u64.wrap x3.Kind) (IntKind.u64.wrap ((IntKind.u64.wrap x3.N) * 2 ^ min (Int.toNat 8) 64))))]:List Int) ([]:(List Za))).bind fun y4=>(Ziu 56 s0_.2 ([y4]:List Za)).bind fun l5=>some l5) ((cond (x3.Kind == 1) (some ((x3.Kind == 1),([(IntKind.u64.wrap (Zdx .u64 (IntKind.u64.wrap x3.Kind) (IntKind.u64.wrap ((IntKind.u64.wrap x3.N) * 2 ^ min (Int.toNat 8) 64))))]:List Int))) (some ((x3.Kind == 2),([(IntKind.u64.wrap (Zdx .u64 (IntKind.u64.wrap x3.Kind) (IntKind.u64.wrap ((IntKind.u64.wrap x3.N) * 2 ^ min (Int.toNat 8) 64))))]:List Int)))).bind fun (z6:(Bool×(List Int)))=>cond z6.1 ((V0 z6.2 ([(⟨a0,[],x3.L⟩:Za)]:List Za)).bind fun y8=>(Ziu 56 s0_.2 ([y8]:List Za)).bind fun l9=>some l9) (cond (x3.Kind == 3) ((X7 x3.E).bind fun y11=>(V0 z6.2 ([y11]:List Za)).bind fun y12=>(Ziu 56 s0_.2 ([y12]:List Za)).bind fun l13=>some l13) (some s0_.2)))).bind fun (z1:(List Za))=>some (.inl ((IntKind.i64.wrap (s0_.1+1)),z1))) (some (.inr s0_.2))
noncomputable def Zeu (X7:(Zf→Option Za)) (Xz:((List Zl)→Option Za)) (Qb:(Int→(List Zt)→Option Za)) (a0:Int) (a1:(List Zt)):Option Za :=
 (Z4 (Zbx X7 a0 a1) (0,([]:List Za))).bind fun (z18:(List Za))=>(Zf8 z18).bind fun y20=>some y20
noncomputable def Y5:Nat→((Zf→Option Za)×((List Zl)→Option Za)×(Int→(List Zt)→Option Za))
 | 0=>((fun _=>none),(fun _=>none),(fun _ _=>none))
 | k+1=>(Zix ((Y5 k).1) ((Y5 k).2.1) ((Y5 k).2.2),Zdq ((Y5 k).1) ((Y5 k).2.1) ((Y5 k).2.2),Zeu ((Y5 k).1) ((Y5 k).2.1) ((Y5 k).2.2))
noncomputable def Zjc (a0:Zf):Option Za:=lim fun k=>(Y5 k).1 a0
noncomputable def Za3 (a0:(List Int)) (s0_:Int):Option (Int ⊕ Int) :=
 (cond (decide (0 < s0_)) ((Xp a0 (IntKind.i64.wrap (s0_ - 1))).bind fun x4=>some (cond (decide (0 < s0_)) (x4 == 0) false)) (some false)).bind fun (z2:Bool)=>cond z2 (some (.inl (IntKind.i64.wrap (s0_ - 1)))) (some (.inr s0_))
noncomputable def U6 (a0:(List Int)):Option (List Int) :=
 (Z4 (Za3 a0) (a0.length:Int)).bind fun (z7:Int)=>(Zlj a0 0 z7).bind fun l9=>some l9
noncomputable def Zb6 (a0:(List Za)) (s0_:Int):Option (Int ⊕ Int) :=
 (cond (decide (0 < s0_)) ((Xp a0 (IntKind.i64.wrap (s0_ - 1))).bind fun x6=>some (cond (decide (0 < s0_)) (x6.Kind == 0) false)) (some false)).bind fun (z3:Bool)=>cond z3 (some (.inl (IntKind.i64.wrap (s0_ - 1)))) (some (.inr s0_))
noncomputable def Zat (a0:(List Za)):Option (List Za) :=
 (Z4 (Zb6 a0) (a0.length:Int)).bind fun (z10:Int)=>(Zlj a0 0 z10).bind fun l12=>some l12
noncomputable def Zdr (Zed:(Za→Option Za)) (z1:((List Int)×(List Za))) (s0_:(Int×(List Za))):Option ((Int×(List Za)) ⊕ (List Za)) :=
 cond (decide (s0_.1 < (z1.2.length:Int))) ((Xp z1.2 s0_.1).bind fun x9=>(Zed x9).bind fun y10=>(Xp s0_.2 s0_.1).bind fun x11=>some (.inl ((IntKind.i64.wrap (s0_.1+1)),(Zlv s0_.2 s0_.1 y10)))) (some (.inr s0_.2))
noncomputable def Zkc (Zed:(Za→Option Za)) (a0:Za):Option Za :=
 cond (a0.Kind == 0) (some (⟨0,[],[]⟩:Za)) ((cond (a0.Kind == 1) ((U6 a0.Words).bind fun y2=>(Zat a0.Kids).bind fun y3=>some (y2,y3)) (some (a0.Words,a0.Kids))).bind fun (z1:((List Int)×(List Za)))=>(cond (decide (0 < (z1.2.length:Int))) ((Zlm 56 (z1.2.length:Int) (⟨(0:Int),[],[]⟩:Za)).bind fun l6=>some l6) (some ([]:List Za))).bind fun (z5:(List Za))=>(Z4 (Zdr Zed z1) (0,z5)).bind fun (z14:(List Za))=>some (⟨a0.Kind,z1.1,z14⟩:Za))
noncomputable def Zbf:Nat→(Za→Option Za)
 | 0=>(fun _=>none)
 | k+1=>Zkc ((Zbf k))
noncomputable def Zkt (a0:Za):Option Za:=lim fun k=>(Zbf k) a0
noncomputable def Zn6 (a0:Int):Option Bool :=
 some (cond (decide (2≤a0)) (decide (a0≤7)) false)
noncomputable def Zik (a0:Int) (a1:Int):Option Int :=
 (Zbg a0).bind fun y2=>cond (cond (cond (!y2.2) true (decide (a1 < 0))) true (decide (1099511627776 < a1))) (some 0) (some (IntKind.i64.wrap (Int.tdiv (IntKind.i64.wrap ((IntKind.i64.wrap (a1 * y2.1))+63)) 64)))
noncomputable def Ze3 (a0:Za) (s0_:(Int×Int×Int)):Option ((Int×Int×Int) ⊕ (Int×Int)) :=
 cond (decide (s0_.2.2 < (a0.Kids.length:Int))) ((Xp a0.Kids s0_.2.2).bind fun x2=>some (.inl ((if s0_.1 < (x2.Words.length:Int) then (x2.Words.length:Int) else s0_.1),(if s0_.2.1 < (x2.Kids.length:Int) then (x2.Kids.length:Int) else s0_.2.1),(IntKind.i64.wrap (s0_.2.2+1))))) (some (.inr (s0_.1,s0_.2.1)))
noncomputable def Zek (a0:Za):Option (Int×Int) :=
 (Z4 (Ze3 a0) (0,0,0)).bind fun (z4:(Int×Int))=>some (z4.1,z4.2)
noncomputable def Zds (Jv:((List Za)→Option Int)) (a0:Za) (s0_:(Int×Int)):Option ((Int×Int) ⊕ Int) :=
 cond (decide (s0_.2 < (a0.Kids.length:Int))) ((Xp a0.Kids s0_.2).bind fun x12=>(Jv x12.Kids).bind fun y13=>some (.inl ((IntKind.i64.wrap (s0_.1+y13)),(IntKind.i64.wrap (s0_.2+1))))) (some (.inr s0_.1))
noncomputable def Zkd (Ub:(Za→Option Int)) (Jv:((List Za)→Option Int)) (a0:Za):Option Int :=
 cond (a0.Kind == 1) ((Jv a0.Kids).bind fun y2=>some (IntKind.i64.wrap ((IntKind.i64.wrap ((a0.Words.length:Int)+(a0.Kids.length:Int)))+y2))) ((Zn6 a0.Kind).bind fun y4=>cond y4 ((Zik (IntKind.i64.wrap (a0.Kind - 2)) (a0.Kids.length:Int)).bind fun y6=>some y6) (cond (a0.Kind == 8) ((Jv a0.Kids).bind fun y8=>some (IntKind.i64.wrap ((a0.Kids.length:Int)+y8))) (cond (a0.Kind == 9) ((Zek a0).bind fun y10=>(Z4 (Zds Jv a0) ((IntKind.i64.wrap (1+(IntKind.i64.wrap ((a0.Kids.length:Int) * (IntKind.i64.wrap (y10.1+y10.2)))))),0)).bind fun (z15:Int)=>some z15) (some 0))))
noncomputable def Zcn (Ub:(Za→Option Int)) (a0:(List Za)) (s0_:(Int×Int)):Option ((Int×Int) ⊕ Int) :=
 cond (decide (s0_.2 < (a0.length:Int))) ((Xp a0 s0_.2).bind fun x2=>(Ub x2).bind fun y3=>some (.inl ((IntKind.i64.wrap (s0_.1+y3)),(IntKind.i64.wrap (s0_.2+1))))) (some (.inr s0_.1))
noncomputable def Zi1 (Ub:(Za→Option Int)) (Jv:((List Za)→Option Int)) (a0:(List Za)):Option Int :=
 (Z4 (Zcn Ub a0) (0,0)).bind fun (z5:Int)=>some z5
noncomputable def X6:Nat→((Za→Option Int)×((List Za)→Option Int))
 | 0=>((fun _=>none),(fun _=>none))
 | k+1=>(Zkd ((X6 k).1) ((X6 k).2),Zi1 ((X6 k).1) ((X6 k).2))
noncomputable def Zsh (a0:Za):Option Int:=lim fun k=>(X6 k).1 a0
noncomputable def Zga (a0:Za):Option Int :=
 (Zkt a0).bind fun y3=>(Zsh y3).bind fun y4=>some y4
structure Xo where
 Kind:Int
 Off:Int
 Data:Int
 Ptrs:Int
 Code:Int
 Count:Int
 Segment:Int
 Double:Bool
noncomputable def Zkb (a0:Za):Option Xo :=
 cond (a0.Kind == 1) (some (⟨1,0,(a0.Words.length:Int),(a0.Kids.length:Int),0,0,0,false⟩:Xo)) (cond (a0.Kind == 9) ((Zek a0).bind fun y2=>some (⟨2,0,0,0,7,(IntKind.i64.wrap ((a0.Kids.length:Int) * (IntKind.i64.wrap (y2.1+y2.2)))),0,false⟩:Xo)) (some (⟨2,0,0,0,(IntKind.i64.wrap (a0.Kind - 2)),(a0.Kids.length:Int),0,false⟩:Xo)))
noncomputable def Zsg (a0:Int):Option Int :=
 ((some (⟨[0,1,8,16,32,64,64],rfl⟩:(Arr Int 7)))).bind fun y6=>((some (⟨[0,0,0,0,0,0,0],rfl⟩:(Arr Int 7)))).bind fun y8=>(Xp y6.1 a0).bind fun x12=>some x12
noncomputable def Ze2 (a0:Xo):Option (Int×Bool) :=
 cond (a0.Kind == 1) (some ((IntKind.i64.wrap (a0.Data+a0.Ptrs)),true)) (cond (cond (a0.Kind == 2) (a0.Code == 7) false) (some ((IntKind.i64.wrap (a0.Count+1)),true)) (cond (cond (cond (cond (cond (a0.Kind == 2) (decide (0≤a0.Code)) false) (decide (a0.Code < 7)) false) (decide (0≤a0.Count)) false) (decide (a0.Count≤536870911)) false) ((Zsg a0.Code).bind fun y2=>some ((IntKind.i64.wrap (Int.tdiv (IntKind.i64.wrap ((IntKind.i64.wrap (a0.Count * y2))+63)) 64)),true)) (some (0,false))))
noncomputable def Z0s (a0:Xo):Option Int :=
 cond (a0.Kind == 1) (some (IntKind.u64.wrap (Zdx .u64 (IntKind.u64.wrap (Zdx .u64 (IntKind.u64.wrap (IntKind.u32.wrap ((IntKind.u32.wrap a0.Off) * 2 ^ min (Int.toNat 2) 32))) (IntKind.u64.wrap ((IntKind.u64.wrap a0.Data) * 2 ^ min (Int.toNat 32) 64)))) (IntKind.u64.wrap ((IntKind.u64.wrap a0.Ptrs) * 2 ^ min (Int.toNat 48) 64))))) (cond (a0.Kind == 2) (some (IntKind.u64.wrap (Zdx .u64 (IntKind.u64.wrap (Zdx .u64 (IntKind.u64.wrap (Zdx .u64 1 (IntKind.u64.wrap (IntKind.u32.wrap ((IntKind.u32.wrap a0.Off) * 2 ^ min (Int.toNat 2) 32))))) (IntKind.u64.wrap ((IntKind.u64.wrap a0.Code) * 2 ^ min (Int.toNat 32) 64)))) (IntKind.u64.wrap ((IntKind.u64.wrap a0.Count) * 2 ^ min (Int.toNat 35) 64))))) (cond (a0.Kind == 3) ((cond a0.Double (some (IntKind.u64.wrap (Zdx .u64 (IntKind.u64.wrap (Zdx .u64 (IntKind.u64.wrap (Zdx .u64 2 (IntKind.u64.wrap ((IntKind.u64.wrap a0.Off) * 2 ^ min (Int.toNat 3) 64)))) (IntKind.u64.wrap ((IntKind.u64.wrap a0.Segment) * 2 ^ min (Int.toNat 32) 64)))) 4))) (some (IntKind.u64.wrap (Zdx .u64 (IntKind.u64.wrap (Zdx .u64 2 (IntKind.u64.wrap ((IntKind.u64.wrap a0.Off) * 2 ^ min (Int.toNat 3) 64)))) (IntKind.u64.wrap ((IntKind.u64.wrap a0.Segment) * 2 ^ min (Int.toNat 32) 64)))))).bind fun (z1:Int)=>some z1) (some 0)))
noncomputable def Zlu (a0:Int):Option Int :=
 some (IntKind.i64.wrap (Int.fdiv (IntKind.i32.wrap (IntKind.u32.wrap a0)) (2 ^ min (Int.toNat 2) 32)))
noncomputable def Zeb (a0:Int) (a1:Int) (a2:Int):Option Int :=
 (Uc (0≤a1)).bind fun u3=>(Uc (0≤a2)).bind fun u4=>some (IntKind.i64.wrap (IntKind.u64.wrap (Qj .u64 (Int.fdiv a0 (2 ^ min (Int.toNat a1) 64)) (IntKind.u64.wrap ((IntKind.u64.wrap (1 * 2 ^ min (Int.toNat a2) 64)) - 1)))))
noncomputable def Zc3 (a0:Int):Option Xo :=
 cond (a0 == 0) (some (⟨0,0,0,0,0,0,0,false⟩:Xo)) (cond ((IntKind.u64.wrap (Qj .u64 a0 3)) == 0) ((Zlu a0).bind fun y4=>(Zeb a0 32 16).bind fun y5=>(Zeb a0 48 16).bind fun y6=>some (⟨1,y4,y5,y6,0,0,0,false⟩:Xo)) (cond ((IntKind.u64.wrap (Qj .u64 a0 3)) == 1) ((Zlu a0).bind fun y10=>(Zeb a0 32 3).bind fun y11=>(Zeb a0 35 29).bind fun y12=>some (⟨2,y10,0,0,y11,y12,0,false⟩:Xo)) (cond ((IntKind.u64.wrap (Qj .u64 a0 3)) == 2) ((Zeb a0 3 29).bind fun y15=>(Zeb a0 32 32).bind fun y16=>some (⟨3,y15,0,0,0,0,y16,((IntKind.u64.wrap (Qj .u64 (Int.fdiv a0 (2 ^ min (Int.toNat 2) 64)) 1)) == 1)⟩:Xo)) (some (⟨4,0,0,0,0,0,0,false⟩:Xo)))))
noncomputable def Zjd (a0:Xo):Option (Int×Bool) :=
 (Z0s a0).bind fun y2=>(cond (a0.Kind != 4) ((Zc3 y2).bind fun y6=>some (cond (a0.Kind != 4) ((y6.Kind == a0.Kind) && ((y6.Off == a0.Off) && ((y6.Data == a0.Data) && ((y6.Ptrs == a0.Ptrs) && ((y6.Code == a0.Code) && ((y6.Count == a0.Count) && ((y6.Segment == a0.Segment) && (y6.Double == a0.Double)))))))) false)) (some false)).bind fun (z4:Bool)=>some (y2,z4)
noncomputable def Jo (a0:Za) (a1:Int):Option Int :=
 cond (cond (decide (a1 < 0)) true (decide ((a0.Words.length:Int)≤a1))) (some 0) ((Xp a0.Words a1).bind fun x2=>some x2)
noncomputable def Zvu (a0:Int) (a1:(List Int)) (s0_:(Bool×Int)):Option ((Bool×Int) ⊕ Bool) :=
 cond (decide (s0_.2 < (a1.length:Int))) ((Xp a1 s0_.2).bind fun x4=>cond s0_.1 ((Zij a0 x4).bind fun y5=>some (.inl ((cond s0_.1 y5 false),(IntKind.i64.wrap (s0_.2+1))))) (some (.inl (false,(IntKind.i64.wrap (s0_.2+1)))))) (some (.inr s0_.1))
noncomputable def Zvv (a1:(List Int)) (y2:(Int×Bool)) (s1_:(Int×(List Int))):Option ((Int×(List Int)) ⊕ (List Int)) :=
 cond (decide (s1_.1 < (a1.length:Int))) ((Xp a1 s1_.1).bind fun x16=>(Uc ((IntKind.i64.wrap (Int.tdiv 64 y2.1))≠0)).bind fun u17=>(Xp s1_.2 (IntKind.i64.wrap (Int.tdiv s1_.1 (IntKind.i64.wrap (Int.tdiv 64 y2.1))))).bind fun x18=>(Uc ((IntKind.i64.wrap (Int.tdiv 64 y2.1))≠0)).bind fun u19=>(Uc (0≤(IntKind.i64.wrap ((Int.tmod s1_.1 (IntKind.i64.wrap (Int.tdiv 64 y2.1))) * y2.1)))).bind fun u20=>some (.inl ((IntKind.i64.wrap (s1_.1+1)),(Zlv s1_.2 (IntKind.i64.wrap (Int.tdiv s1_.1 (IntKind.i64.wrap (Int.tdiv 64 y2.1)))) (IntKind.u64.wrap (Zdx .u64 x18 (IntKind.u64.wrap (x16 * 2 ^ min (Int.toNat (IntKind.i64.wrap ((Int.tmod s1_.1 (IntKind.i64.wrap (Int.tdiv 64 y2.1))) * y2.1))) 64)))))))) (some (.inr s1_.2))
noncomputable def Zwa (a0:Int) (a1:(List Int)):Option ((List Int)×Bool) :=
 (Zbg a0).bind fun y2=>(Z4 (Zvu a0 a1) (y2.2,0)).bind fun (z8:Bool)=>cond (!z8) (some (([]:(List Int)),false)) ((Zik a0 (a1.length:Int)).bind fun y11=>(Zlm 8 y11 (0:Int)).bind fun l12=>cond (y2.1 == 0) (some (l12,true)) ((Uc (y2.1≠0)).bind fun u14=>(Z4 (Zvv a1 y2) (0,l12)).bind fun (z24:(List Int))=>some (z24,true)))
noncomputable def Zml (a0:Za) (s0_:(Int×(List Int))):Option ((Int×(List Int)) ⊕ (List Int)) :=
 cond (decide (s0_.1 < (a0.Kids.length:Int))) ((Xp a0.Kids s0_.1).bind fun x2=>(Jo x2 0).bind fun y3=>(Ziu 8 s0_.2 ([y3]:List Int)).bind fun l4=>some (.inl ((IntKind.i64.wrap (s0_.1+1)),l4))) (some (.inr s0_.2))
noncomputable def Zle (a0:Za):Option (List Int) :=
 (Z4 (Zml a0) (0,([]:List Int))).bind fun (z6:(List Int))=>(Zwa (IntKind.i64.wrap (a0.Kind - 2)) z6).bind fun y8=>some y8.1
structure Zi where
 words:(List Int)
 next:Int
noncomputable def Zaw (Ym:(Zi→Int→Za→Option Zi)) (Yj:(Zi→Int→Za→Option Zi)) (Z9:(Zi→Int→(List Za)→Option Zi)) (Yk:(Zi→Int→Za→Option Zi)) (a0:Zi) (a1:Int) (a2:Za):Option Zi :=
 cond (a2.Kind == 0) (some (⟨a0.words,a0.next⟩:Zi)) ((Zkb a2).bind fun y2=>(Ze2 y2).bind fun y4=>(cond (cond (y2.Kind == 1) (y4.1 == 0) false) (some (-1)) (some (IntKind.i64.wrap ((IntKind.i64.wrap (a0.next - a1)) - 1)))).bind fun (z5:Int)=>(Zjd (⟨y2.Kind,z5,y2.Data,y2.Ptrs,y2.Code,y2.Count,y2.Segment,y2.Double⟩:Xo)).bind fun y10=>(Xp a0.words a1).bind fun x11=>(Yj (⟨(Zlv a0.words a1 y10.1),(IntKind.i64.wrap (a0.next+y4.1))⟩:Zi) a0.next a2).bind fun y13=>some (⟨y13.words,y13.next⟩:Zi))
noncomputable def Ug (Ym:(Zi→Int→Za→Option Zi)) (Yj:(Zi→Int→Za→Option Zi)) (Z9:(Zi→Int→(List Za)→Option Zi)) (Yk:(Zi→Int→Za→Option Zi)) (a0:Zi) (a1:Int) (a2:Za):Option Zi :=
 cond (a2.Kind == 1) ((Uc (0 < List.length a0.words∧0≤a1∧a1≤(List.length a0.words:Int))).bind fun u1=>(Z9 (⟨(Zr2 a0.words a1 a2.Words),a0.next⟩:Zi) (IntKind.i64.wrap (a1+((min (List.length a2.Words) (Int.toNat ((List.length a0.words:Int) - a1)):Nat):Int))) a2.Kids).bind fun y3=>some (⟨y3.words,y3.next⟩:Zi)) (cond (a2.Kind == 8) ((Z9 (⟨a0.words,a0.next⟩:Zi) a1 a2.Kids).bind fun y4=>some (⟨y4.words,y4.next⟩:Zi)) (cond (a2.Kind == 9) ((Yk (⟨a0.words,a0.next⟩:Zi) a1 a2).bind fun y5=>some (⟨y5.words,y5.next⟩:Zi)) ((Uc (0 < List.length a0.words∧0≤a1∧a1≤(List.length a0.words:Int))).bind fun u6=>(Zle a2).bind fun y7=>some (⟨(Zr2 a0.words a1 y7),a0.next⟩:Zi))))
noncomputable def Zg2 (Ym:(Zi→Int→Za→Option Zi)) (a1:Int) (a2:(List Za)) (s0_:(Int×(List Int)×Int)):Option ((Int×(List Int)×Int) ⊕ ((List Int)×Int)) :=
 cond (decide (s0_.1 < (a2.length:Int))) ((Xp a2 s0_.1).bind fun x2=>(Ym (⟨s0_.2.1,s0_.2.2⟩:Zi) (IntKind.i64.wrap (a1+s0_.1)) x2).bind fun y3=>some (.inl ((IntKind.i64.wrap (s0_.1+1)),y3.words,y3.next))) (some (.inr (s0_.2.1,s0_.2.2)))
noncomputable def Vt (Ym:(Zi→Int→Za→Option Zi)) (Yj:(Zi→Int→Za→Option Zi)) (Z9:(Zi→Int→(List Za)→Option Zi)) (Yk:(Zi→Int→Za→Option Zi)) (a0:Zi) (a1:Int) (a2:(List Za)):Option Zi :=
 (Z4 (Zg2 Ym a1 a2) (0,a0.words,a0.next)).bind fun (z5:((List Int)×Int))=>some (⟨z5.1,z5.2⟩:Zi)
noncomputable def Zhd (a1:Int) (a2:Za) (y2:(Int×Int)) (s0_:(Int×(List Int))):Option ((Int×(List Int)) ⊕ (List Int)) :=
 cond (decide (s0_.1 < (a2.Kids.length:Int))) ((Xp a2.Kids s0_.1).bind fun x9=>(Uc (0 < List.length s0_.2∧0≤(IntKind.i64.wrap ((IntKind.i64.wrap (a1+1))+(IntKind.i64.wrap (s0_.1 * (IntKind.i64.wrap (y2.1+y2.2))))))∧(IntKind.i64.wrap ((IntKind.i64.wrap (a1+1))+(IntKind.i64.wrap (s0_.1 * (IntKind.i64.wrap (y2.1+y2.2))))))≤(List.length s0_.2:Int))).bind fun u10=>some (.inl ((IntKind.i64.wrap (s0_.1+1)),(Zr2 s0_.2 (IntKind.i64.wrap ((IntKind.i64.wrap (a1+1))+(IntKind.i64.wrap (s0_.1 * (IntKind.i64.wrap (y2.1+y2.2)))))) x9.Words)))) (some (.inr s0_.2))
noncomputable def Zhe (Z9:(Zi→Int→(List Za)→Option Zi)) (a1:Int) (a2:Za) (y2:(Int×Int)) (s1_:(Int×(List Int)×Int)):Option ((Int×(List Int)×Int) ⊕ ((List Int)×Int)) :=
 cond (decide (s1_.1 < (a2.Kids.length:Int))) ((Xp a2.Kids s1_.1).bind fun x15=>(Z9 (⟨s1_.2.1,s1_.2.2⟩:Zi) (IntKind.i64.wrap ((IntKind.i64.wrap ((IntKind.i64.wrap (a1+1))+(IntKind.i64.wrap (s1_.1 * (IntKind.i64.wrap (y2.1+y2.2))))))+y2.1)) x15.Kids).bind fun y16=>some (.inl ((IntKind.i64.wrap (s1_.1+1)),y16.words,y16.next))) (some (.inr (s1_.2.1,s1_.2.2)))
noncomputable def Zfn (Ym:(Zi→Int→Za→Option Zi)) (Yj:(Zi→Int→Za→Option Zi)) (Z9:(Zi→Int→(List Za)→Option Zi)) (Yk:(Zi→Int→Za→Option Zi)) (a0:Zi) (a1:Int) (a2:Za):Option Zi :=
 (Zek a2).bind fun y2=>(cond (decide (0 < (a2.Kids.length:Int))) ((Zjd (⟨1,(a2.Kids.length:Int),y2.1,y2.2,0,0,0,false⟩:Xo)).bind fun y4=>(Xp a0.words a1).bind fun x5=>some (Zlv a0.words a1 y4.1)) (some a0.words)).bind fun (z3:(List Int))=>(Z4 (Zhd a1 a2 y2) (0,z3)).bind fun (z13:(List Int))=>(Z4 (Zhe Z9 a1 a2 y2) (0,z13,a0.next)).bind fun (z18:((List Int)×Int))=>some (⟨z18.1,z18.2⟩:Zi)
noncomputable def Z3:Nat→((Zi→Int→Za→Option Zi)×(Zi→Int→Za→Option Zi)×(Zi→Int→(List Za)→Option Zi)×(Zi→Int→Za→Option Zi))
 | 0=>((fun _ _ _=>none),(fun _ _ _=>none),(fun _ _ _=>none),(fun _ _ _=>none))
 | k+1=>(Zaw ((Z3 k).1) ((Z3 k).2.1) ((Z3 k).2.2.1) ((Z3 k).2.2.2),Ug ((Z3 k).1) ((Z3 k).2.1) ((Z3 k).2.2.1) ((Z3 k).2.2.2),Vt ((Z3 k).1) ((Z3 k).2.1) ((Z3 k).2.2.1) ((Z3 k).2.2.2),Zfn ((Z3 k).1) ((Z3 k).2.1) ((Z3 k).2.2.1) ((Z3 k).2.2.2))
noncomputable def Zdh (a0:Zi) (a1:Int) (a2:Za):Option Zi:=lim fun k=>(Z3 k).1 a0 a1 a2
noncomputable def Gq (a0:Za) (a1:Int):Option ((List Int)×Bool) :=
 (cond (a0.Kind == 10) (some true) ((Zjf a0).bind fun y4=>some (cond (a0.Kind == 10) true (!y4)))).bind fun (z2:Bool)=>cond z2 (some (([]:(List Int)),false)) ((Zkt a0).bind fun y7=>(Zga y7).bind fun y9=>cond (cond (decide (a1 < (IntKind.i64.wrap (1+y9)))) true (decide (131072 < (IntKind.i64.wrap (1+y9))))) (some (([]:(List Int)),false)) ((Zlm 8 (IntKind.i64.wrap (1+y9)) (0:Int)).bind fun l11=>(Zdh (⟨l11,1⟩:Zi) 0 y7).bind fun y13=>some (y13.words,true)))
noncomputable def Qm (a0:List Int):Option (List Int) :=
 Ziu 8 ([]:List Int) a0
noncomputable def Zbn (a0:(List (List Int))) (s0_:(Int×(List (List Int)))):Option ((Int×(List (List Int))) ⊕ (List (List Int))) :=
 cond (decide (s0_.1 < (a0.length:Int))) ((Xp a0 s0_.1).bind fun x4=>(Qm x4).bind fun y5=>(Xp s0_.2 s0_.1).bind fun x6=>some (.inl ((IntKind.i64.wrap (s0_.1+1)),(Zlv s0_.2 s0_.1 y5)))) (some (.inr s0_.2))
noncomputable def Zhm (a0:(List (List Int))):Option (List (List Int)) :=
 (Zlm 24 (a0.length:Int) ([]:(List Int))).bind fun l2=>(Z4 (Zbn a0) (0,l2)).bind fun (z9:(List (List Int)))=>some z9
structure Z0 where
 segments:(List (List Int))
 size:Int
 left:Int
noncomputable def Zj5 (a0:(List (List Int))):Option (Option Z0) :=
 (Zhm a0).bind fun y2=>some (some (⟨y2,0,0⟩:Z0))
structure X4 where
 Depth:Int
 Weight:Int
 MaxD:Int
 MaxOut:Int
noncomputable def Zb5 :Option X4 :=
 some (⟨64,65536,0,0⟩:X4)
noncomputable def Zco (a0:Int) (a1:Int):Option Int :=
 some (if a1 < (if a0 < 0 then 0 else a0) then a1 else (if a0 < 0 then 0 else a0))
noncomputable def Zji (a0:X4):Option X4 :=
 (Zco a0.Depth 64).bind fun y5=>(Zco a0.Weight 65536).bind fun y6=>(Zco a0.MaxD 4096).bind fun y7=>(Zco a0.MaxOut 131072).bind fun y8=>some (⟨y5,y6,y7,y8⟩:X4)
noncomputable def Zi9 (a0:(Option Z0)):Option Int :=
 cond (Option.isNone a0) (some 0) ((a0).bind fun x4=>some (x4.segments.length:Int))
noncomputable def Zdg (a0:(Option Z0)) (a1:Int):Option Bool :=
 (cond (decide (0≤a1)) ((Zi9 a0).bind fun y4=>some (cond (decide (0≤a1)) (decide (a1 < y4)) false)) (some false)).bind fun (z2:Bool)=>some z2
noncomputable def Zej (a0:(Option Z0)) (a1:Int):Option Int :=
 (Zdg a0 a1).bind fun y2=>cond (!y2) (some 0) ((a0).bind fun x5=>(Xp x5.segments a1).bind fun x6=>some (x6.length:Int))
noncomputable def Zcw (a0:(Option Z0)) (a1:Int) (a2:Int) (a3:Int):Option Bool :=
 ((Zdg a0 a1).bind fun y8=>cond y8 (cond (decide (0≤a2)) (cond (decide (0≤a3)) ((Zej a0 a1).bind fun y9=>cond (decide (a3≤y9)) ((Zej a0 a1).bind fun y10=>some (cond (cond (cond (cond y8 (decide (0≤a2)) false) (decide (0≤a3)) false) (decide (a3≤y9)) false) (decide (a2≤(IntKind.i64.wrap (y10 - a3)))) false)) (some false)) (some false)) (some false)) (some false)).bind fun (z4:Bool)=>some z4
noncomputable def Vy (a0:(Option Z0)) (a1:Int) (a2:Int):Option (Int×Bool) :=
 (Zcw a0 a1 a2 1).bind fun y2=>cond (!y2) (some (0,false)) ((a0).bind fun x6=>(Xp x6.segments a1).bind fun x7=>(Xp x7 a2).bind fun x8=>some (x8,true))
noncomputable def Zh5 (a0:(Option Z0)) (a1:Int) (a2:Int) (a3:Int):Option ((List Int)×Bool) :=
 (Zcw a0 a1 a2 a3).bind fun y2=>cond (!y2) (some (([]:(List Int)),false)) ((a0).bind fun x7=>(Xp x7.segments a1).bind fun x8=>(Zlj x8 a2 (IntKind.i64.wrap (a2+a3))).bind fun l9=>(Qm l9).bind fun y10=>some (y10,true))
structure Q0 where
 P:Xo
 Segment:Int
 At:Int
noncomputable def Zjb (a0:(Option Z0)) (a1:Xo) (a2:Int) (a3:Int):Option (Q0×Int) :=
 cond (a1.Kind == 4) (some ((⟨⟨0,0,0,0,0,0,0,false⟩,0,0⟩:Q0),9)) ((Ze2 a1).bind fun y2=>cond (!y2.2) (some ((⟨⟨0,0,0,0,0,0,0,false⟩,0,0⟩:Q0),8)) ((Zcw a0 a2 a3 y2.1).bind fun y4=>cond (!y4) (some ((⟨⟨0,0,0,0,0,0,0,false⟩,0,0⟩:Q0),7)) (some ((⟨⟨a1.Kind,0,a1.Data,a1.Ptrs,a1.Code,a1.Count,a1.Segment,a1.Double⟩,a2,a3⟩:Q0),0))))
noncomputable def Zqn (a0:(Option Z0)) (a1:Int) (a2:Int):Option (Q0×Int) :=
 (Zh5 a0 a1 a2 2).bind fun y2=>cond (!y2.2) (some ((⟨⟨0,0,0,0,0,0,0,false⟩,0,0⟩:Q0),7)) ((Xp y2.1 0).bind fun x3=>(Zc3 x3).bind fun y4=>(Xp y2.1 1).bind fun x5=>(Zc3 x5).bind fun y6=>cond (cond (y4.Kind != 3) true y4.Double) (some ((⟨⟨0,0,0,0,0,0,0,false⟩,0,0⟩:Q0),8)) (cond (cond (y6.Kind != 4) (y6.Off != 0) false) (some ((⟨⟨0,0,0,0,0,0,0,false⟩,0,0⟩:Q0),8)) ((Zjb a0 y6 y4.Segment y4.Off).bind fun y8=>some (y8.1,y8.2))))
noncomputable def Zqo (a0:(Option Z0)) (a1:Int) (a2:Int):Option (Q0×Int) :=
 (Vy a0 a1 a2).bind fun y2=>cond (!y2.2) (some ((⟨⟨0,0,0,0,0,0,0,false⟩,0,0⟩:Q0),7)) ((Zc3 y2.1).bind fun y4=>(Zjb a0 y4 a1 (IntKind.i64.wrap ((IntKind.i64.wrap (a2+1))+y4.Off))).bind fun y6=>some (y6.1,y6.2))
noncomputable def Zqm (a0:(Option Z0)) (a1:Int) (a2:Int):Option (Q0×Int) :=
 (Vy a0 a1 a2).bind fun y2=>cond (!y2.2) (some ((⟨⟨0,0,0,0,0,0,0,false⟩,0,0⟩:Q0),7)) ((Zc3 y2.1).bind fun y4=>cond (y4.Kind == 0) (some ((⟨⟨0,0,0,0,0,0,0,false⟩,0,0⟩:Q0),0)) (cond (cond (y4.Kind == 3) y4.Double false) ((Zqn a0 y4.Segment y4.Off).bind fun y6=>some (y6.1,y6.2)) (cond (y4.Kind == 3) ((Zqo a0 y4.Segment y4.Off).bind fun y8=>some (y8.1,y8.2)) ((Zjb a0 y4 a1 (IntKind.i64.wrap ((IntKind.i64.wrap (a2+1))+y4.Off))).bind fun y10=>some (y10.1,y10.2)))))
structure Zj where
 a:(Option Z0)
 kind:Int
 segment:Int
 at_:Int
 words:Int
 ptrs:Int
 count:Int
 code:Int
 index:Int
noncomputable def Zib (a0:Zj):Option (Zj×Int) :=
 (Vy a0.a a0.segment a0.at_).bind fun y2=>(Zc3 y2.1).bind fun y4=>cond (cond (cond (cond (y4.Kind != 0) (y4.Kind != 1) false) true (decide (y4.Off < 0))) true (decide (a0.count < (IntKind.i64.wrap (y4.Off * (IntKind.i64.wrap (y4.Data+y4.Ptrs))))))) (some ((⟨(none:(Option Z0)),0,0,0,0,0,0,0,0⟩:Zj),8)) (some ((⟨a0.a,a0.kind,a0.segment,a0.at_,y4.Data,y4.Ptrs,y4.Off,a0.code,a0.index⟩:Zj),0))
noncomputable def Zks (a0:(Option Z0)) (a1:Int) (a2:Int):Option (Zj×Int) :=
 (Zqm a0 a1 a2).bind fun y2=>cond (cond (y2.2 != 0) true (y2.1.P.Kind == 0)) (some ((⟨(none:(Option Z0)),0,0,0,0,0,0,0,0⟩:Zj),y2.2)) (cond (y2.1.P.Kind == 1) (some ((⟨a0,1,y2.1.Segment,y2.1.At,y2.1.P.Data,y2.1.P.Ptrs,0,0,0⟩:Zj),0)) (cond (y2.1.P.Code == 7) ((Zib (⟨a0,(IntKind.i64.wrap (y2.1.P.Code+2)),y2.1.Segment,y2.1.At,0,0,y2.1.P.Count,0,0⟩:Zj)).bind fun y4=>some (y4.1,y4.2)) (some ((⟨a0,(IntKind.i64.wrap (y2.1.P.Code+2)),y2.1.Segment,y2.1.At,0,0,y2.1.P.Count,0,0⟩:Zj),0))))
noncomputable def Zfk (a0:(Option Z0)):Option (Zj×Int) :=
 (Zks a0 0 0).bind fun y2=>some (y2.1,y2.2)
noncomputable def Qa (a0:Zj):Option Int :=
 some a0.kind
noncomputable def Xn (a0:Zj):Option Int :=
 cond (a0.kind == 1) (some a0.ptrs) (some a0.count)
noncomputable def Zjj (a0:Zj):Option Int :=
 (Qa a0).bind fun y2=>cond (y2 == 0) (some 0) (((Qa a0).bind fun y8=>cond (y8 == 9) ((Xn a0).bind fun y9=>some (cond (y8 == 9) (decide (0 < y9)) false)) (some false)).bind fun (z5:Bool)=>cond z5 (some 2) (some 1))
noncomputable def K9 (a0:Zj):Option Int :=
 cond (a0.kind == 1) (some a0.words) (cond (a0.kind == 10) (some 1) (some 0))
noncomputable def Zia (a0:Zj):Option (Int×Int) :=
 cond (a0.kind != 9) (some (0,0)) (some (a0.words,a0.ptrs))
noncomputable def Zgb (a0:Zj):Option Int :=
 (Qa a0).bind fun y2=>cond (y2 == 0) (some 0) (cond (y2 == 1) ((K9 a0).bind fun y5=>(Xn a0).bind fun y6=>some (IntKind.i64.wrap ((IntKind.i64.wrap (1+y5))+y6))) (cond (y2 == 9) ((Zia a0).bind fun y8=>(Xn a0).bind fun y10=>some (IntKind.i64.wrap (1+(IntKind.i64.wrap (y10 * (IntKind.i64.wrap ((IntKind.i64.wrap (1+y8.1))+y8.2))))))) ((Xn a0).bind fun y12=>some (IntKind.i64.wrap (1+y12)))))
noncomputable def Zd0 (a0:Zj) (a1:Int):Option (Zj×Int) :=
 (cond (decide (a1 < 0)) (some true) ((Xn a0).bind fun y4=>some (cond (decide (a1 < 0)) true (decide (y4≤a1))))).bind fun (z2:Bool)=>cond z2 (some ((⟨(none:(Option Z0)),0,0,0,0,0,0,0,0⟩:Zj),0)) (cond (a0.kind == 1) ((Zks a0.a a0.segment (IntKind.i64.wrap ((IntKind.i64.wrap (a0.at_+a0.words))+a1))).bind fun y7=>some (y7.1,y7.2)) (cond (a0.kind == 8) ((Zks a0.a a0.segment (IntKind.i64.wrap (a0.at_+a1))).bind fun y9=>some (y9.1,y9.2)) (cond (a0.kind == 9) (some ((⟨a0.a,1,a0.segment,(IntKind.i64.wrap ((IntKind.i64.wrap (a0.at_+1))+(IntKind.i64.wrap (a1 * (IntKind.i64.wrap (a0.words+a0.ptrs)))))),a0.words,a0.ptrs,0,0,0⟩:Zj),0)) (some ((⟨a0.a,10,a0.segment,a0.at_,0,0,0,(IntKind.i64.wrap (a0.kind - 2)),a1⟩:Zj),0)))))
structure Zk where
 left:Int
noncomputable def Un (Yz:(Zk→Zj→Int→Option (Int×Zk))) (Yy:(Zk→Zj→Int→Option (Int×Zk))) (Y1:(Zk→Zj→Int→Option (Int×Zk))) (a0:Zk) (a1:Zj) (a2:Int):Option (Int×Zk) :=
 ((Zjj a1).bind fun y6=>cond (decide (a2 < y6)) (some true) ((Zgb a1).bind fun y7=>some (cond (decide (a2 < y6)) true (decide (a0.left < y7))))).bind fun (z3:Bool)=>cond z3 (some (3,a0)) ((Zgb a1).bind fun y10=>(Qa a1).bind fun y12=>(cond (y12 == 1) (some (y12 == 1)) (some (y12 == 8))).bind fun (z13:Bool)=>cond z13 ((Yy (⟨(IntKind.i64.wrap (a0.left - y10))⟩:Zk) a1 (IntKind.i64.wrap (a2 - 1))).bind fun y16=>some (y16.1,y16.2)) (cond (y12 == 9) ((Y1 (⟨(IntKind.i64.wrap (a0.left - y10))⟩:Zk) a1 (IntKind.i64.wrap (a2 - 1))).bind fun y18=>some (y18.1,y18.2)) (some (0,(⟨(IntKind.i64.wrap (a0.left - y10))⟩:Zk)))))
noncomputable def Zig (Yz:(Zk→Zj→Int→Option (Int×Zk))) (a1:Zj) (a2:Int) (y2:Int) (s0_:(Int×Int)):Option ((Int×Int) ⊕ ((Int×Int) ⊕ Int)) :=
 cond (decide (s0_.1 < y2)) ((Zd0 a1 s0_.1).bind fun y4=>cond (y4.2 != 0) (some (.inr (.inl (y4.2,s0_.2)))) ((Yz (⟨s0_.2⟩:Zk) y4.1 a2).bind fun y6=>cond (y6.1 != 0) (some (.inr (.inl (y6.1,y6.2.left)))) (some (.inl ((IntKind.i64.wrap (s0_.1+1)),y6.2.left))))) (some (.inr (.inr s0_.2)))
noncomputable def Gm (Yz:(Zk→Zj→Int→Option (Int×Zk))) (Yy:(Zk→Zj→Int→Option (Int×Zk))) (Y1:(Zk→Zj→Int→Option (Int×Zk))) (a0:Zk) (a1:Zj) (a2:Int):Option (Int×Zk) :=
 (Xn a1).bind fun y2=>(Z4 (Zig Yz a1 a2 y2) (0,a0.left)).bind fun (z10:((Int×Int) ⊕ Int))=>match z10 with | .inl z10=>some (z10.1,(⟨z10.2⟩:Zk)) | .inr z10=>some (0,(⟨z10⟩:Zk))
noncomputable def Zfz (Yy:(Zk→Zj→Int→Option (Int×Zk))) (a1:Zj) (a2:Int) (y2:Int) (s0_:(Int×Int)):Option ((Int×Int) ⊕ ((Int×Int) ⊕ Int)) :=
 cond (decide (s0_.1 < y2)) ((Zd0 a1 s0_.1).bind fun y4=>cond (y4.2 != 0) (some (.inr (.inl (y4.2,s0_.2)))) ((Yy (⟨s0_.2⟩:Zk) y4.1 (IntKind.i64.wrap (a2 - 1))).bind fun y6=>cond (y6.1 != 0) (some (.inr (.inl (y6.1,y6.2.left)))) (some (.inl ((IntKind.i64.wrap (s0_.1+1)),y6.2.left))))) (some (.inr (.inr s0_.2)))
noncomputable def Zdt (Yz:(Zk→Zj→Int→Option (Int×Zk))) (Yy:(Zk→Zj→Int→Option (Int×Zk))) (Y1:(Zk→Zj→Int→Option (Int×Zk))) (a0:Zk) (a1:Zj) (a2:Int):Option (Int×Zk) :=
 (Xn a1).bind fun y2=>(Z4 (Zfz Yy a1 a2 y2) (0,a0.left)).bind fun (z10:((Int×Int) ⊕ Int))=>match z10 with | .inl z10=>some (z10.1,(⟨z10.2⟩:Zk)) | .inr z10=>some (0,(⟨z10⟩:Zk))
noncomputable def Yb:Nat→((Zk→Zj→Int→Option (Int×Zk))×(Zk→Zj→Int→Option (Int×Zk))×(Zk→Zj→Int→Option (Int×Zk)))
 | 0=>((fun _ _ _=>none),(fun _ _ _=>none),(fun _ _ _=>none))
 | k+1=>(Un ((Yb k).1) ((Yb k).2.1) ((Yb k).2.2),Gm ((Yb k).1) ((Yb k).2.1) ((Yb k).2.2),Zdt ((Yb k).1) ((Yb k).2.1) ((Yb k).2.2))
noncomputable def Zcd (a0:Zk) (a1:Zj) (a2:Int):Option (Int×Zk):=lim fun k=>(Yb k).1 a0 a1 a2
noncomputable def Zbj (a0:(Option Z0)) (a1:X4):Option (Int×Int) :=
 (Zji a1).bind fun y2=>(Zfk a0).bind fun y4=>cond (y4.2 != 0) (some (0,y4.2)) ((Zcd (⟨y2.Weight⟩:Zk) y4.1 y2.Depth).bind fun y6=>cond (y6.1 != 0) (some (0,y6.1)) (some ((IntKind.i64.wrap (y2.Weight - y6.2.left)),0)))
noncomputable def Gv (a0:Zf) (a1:Int):Option ((List Int)×Bool) :=
 (Zls a0).bind fun y2=>cond (!y2) (some (([]:(List Int)),false)) ((Zjc a0).bind fun y5=>(Gq y5 a1).bind fun y6=>cond (!y6.2) (some (([]:(List Int)),false)) ((Zj5 ([y6.1]:List (List Int))).bind fun y10=>(Zb5).bind fun y11=>(Zbj y10 y11).bind fun y12=>cond (y12.2 != 0) (some (([]:(List Int)),false)) (some (y6.1,true))))
noncomputable def Zhy (a0:Zj):Option Int :=
 (Qa a0).bind fun y2=>cond (y2 == 0) (some 0) (cond (y2 == 1) ((K9 a0).bind fun y5=>(Xn a0).bind fun y6=>some (IntKind.i64.wrap ((IntKind.i64.wrap (1+y5))+y6))) (cond (y2 == 8) ((Xn a0).bind fun y8=>some (IntKind.i64.wrap (1+y8))) (some 1)))
noncomputable def Zjh (a0:Zj):Option Bool :=
 ((Qa a0).bind fun y8=>cond (y8 == 1) (some true) ((Qa a0).bind fun y9=>(Zf9 y9).bind fun y10=>some (cond (y8 == 1) true y10))).bind fun (z4:Bool)=>some z4
noncomputable def Zv9 (a0:(List Int)) (a1:Int) (a2:Int):Option Int :=
 (Zbg a1).bind fun y2=>cond (cond (y2.1 == 0) true (decide (a2 < 0))) (some 0) ((Uc (y2.1≠0)).bind fun u4=>(Uc ((IntKind.i64.wrap (Int.tdiv 64 y2.1))≠0)).bind fun u6=>cond (decide ((a0.length:Int)≤(IntKind.i64.wrap (Int.tdiv a2 (IntKind.i64.wrap (Int.tdiv 64 y2.1)))))) (some 0) ((Uc ((IntKind.i64.wrap (Int.tdiv 64 y2.1))≠0)).bind fun u12=>(Xp a0 (IntKind.i64.wrap (Int.tdiv a2 (IntKind.i64.wrap (Int.tdiv 64 y2.1))))).bind fun x13=>(Uc ((IntKind.i64.wrap (Int.tdiv 64 y2.1))≠0)).bind fun u14=>(Uc (0≤(IntKind.i64.wrap ((Int.tmod a2 (IntKind.i64.wrap (Int.tdiv 64 y2.1))) * y2.1)))).bind fun u15=>(Uc (0≤y2.1)).bind fun u16=>some (IntKind.u64.wrap (Qj .u64 (Int.fdiv x13 (2 ^ min (Int.toNat (IntKind.i64.wrap ((Int.tmod a2 (IntKind.i64.wrap (Int.tdiv 64 y2.1))) * y2.1))) 64)) (IntKind.u64.wrap ((IntKind.u64.wrap (1 * 2 ^ min (Int.toNat y2.1) 64)) - 1))))))
noncomputable def Zg5 (a0:Zj):Option Int :=
 (Zbg a0.code).bind fun y2=>cond (y2.1 == 0) (some 0) ((Uc (y2.1≠0)).bind fun u4=>(Uc ((IntKind.i64.wrap (Int.tdiv 64 y2.1))≠0)).bind fun u7=>(Vy a0.a a0.segment (IntKind.i64.wrap (a0.at_+(IntKind.i64.wrap (Int.tdiv a0.index (IntKind.i64.wrap (Int.tdiv 64 y2.1))))))).bind fun y8=>(Uc ((IntKind.i64.wrap (Int.tdiv 64 y2.1))≠0)).bind fun u11=>(Zv9 ([y8.1]:List Int) a0.code (Int.tmod a0.index (IntKind.i64.wrap (Int.tdiv 64 y2.1)))).bind fun y12=>some y12)
noncomputable def Zje (a0:Zj) (a1:Int):Option Int :=
 (cond (decide (a1 < 0)) (some true) ((K9 a0).bind fun y4=>some (cond (decide (a1 < 0)) true (decide (y4≤a1))))).bind fun (z2:Bool)=>cond z2 (some 0) (cond (a0.kind == 10) ((Zg5 a0).bind fun y7=>some y7) ((Vy a0.a a0.segment (IntKind.i64.wrap (a0.at_+a1))).bind fun y9=>some y9.1))
structure Z5 where
 left:Int
noncomputable def Zfx (a1:Zj) (y12:Int) (s0_:(Int×(List Int))):Option ((Int×(List Int)) ⊕ (List Int)) :=
 cond (decide (s0_.1 < y12)) ((Zje a1 s0_.1).bind fun y13=>(Ziu 8 s0_.2 ([y13]:List Int)).bind fun l14=>some (.inl ((IntKind.i64.wrap (s0_.1+1)),l14))) (some (.inr s0_.2))
noncomputable def Zfy (Qi:(Z5→Zj→Int→Option (Za×Int×Z5))) (a1:Zj) (a2:Int) (y18:Int) (s1_:(Int×(List Za)×Int)):Option ((Int×(List Za)×Int) ⊕ ((Int×Int) ⊕ ((List Za)×Int))) :=
 cond (decide (s1_.1 < y18)) ((Zd0 a1 s1_.1).bind fun y20=>cond (y20.2 != 0) (some (.inr (.inl (y20.2,s1_.2.2)))) ((Qi (⟨s1_.2.2⟩:Z5) y20.1 (IntKind.i64.wrap (a2 - 1))).bind fun y22=>cond (y22.2.1 != 0) (some (.inr (.inl (y22.2.1,y22.2.2.left)))) ((Ziu 56 s1_.2.1 ([y22.1]:List Za)).bind fun l23=>some (.inl ((IntKind.i64.wrap (s1_.1+1)),l23,y22.2.2.left))))) (some (.inr (.inr (s1_.2.1,s1_.2.2))))
noncomputable def Vc (Qi:(Z5→Zj→Int→Option (Za×Int×Z5))) (a0:Z5) (a1:Zj) (a2:Int):Option (Za×Int×Z5) :=
 (Zhy a1).bind fun y2=>(cond (decide ((IntKind.i64.wrap (a0.left - y2)) < 0)) (some true) (cond (a2 == 0) ((Zjh a1).bind fun y6=>some (cond (decide ((IntKind.i64.wrap (a0.left - y2)) < 0)) true (cond (a2 == 0) y6 false))) (some (cond (decide ((IntKind.i64.wrap (a0.left - y2)) < 0)) true false)))).bind fun (z4:Bool)=>cond z4 (some ((⟨0,[],[]⟩:Za),3,(⟨(IntKind.i64.wrap (a0.left - y2))⟩:Z5))) ((Qa a1).bind fun y10=>(K9 a1).bind fun y12=>(Z4 (Zfx a1 y12) (0,([]:List Int))).bind fun (z16:(List Int))=>(Xn a1).bind fun y18=>(Z4 (Zfy Qi a1 a2 y18) (0,([]:List Za),(IntKind.i64.wrap (a0.left - y2)))).bind fun (z27:((Int×Int) ⊕ ((List Za)×Int)))=>match z27 with | .inl z27=>some ((⟨0,[],[]⟩:Za),z27.1,(⟨z27.2⟩:Z5)) | .inr z27=>some ((⟨y10,z16,z27.1⟩:Za),0,(⟨z27.2⟩:Z5)))
noncomputable def Gb:Nat→(Z5→Zj→Int→Option (Za×Int×Z5))
 | 0=>(fun _ _ _=>none)
 | k+1=>Vc ((Gb k))
noncomputable def Zd2 (a0:Z5) (a1:Zj) (a2:Int):Option (Za×Int×Z5):=lim fun k=>(Gb k) a0 a1 a2
noncomputable def Zjg (a0:Zj):Option (Za×Int) :=
 (Zd2 (⟨65536⟩:Z5) a0 64).bind fun y2=>some (y2.1,y2.2.1)
noncomputable def Zd1 (a0:(Option Z0)) (a1:X4):Option (Za×Int) :=
 (Zbj a0 a1).bind fun y2=>cond (y2.2 != 0) (some ((⟨0,[],[]⟩:Za),y2.2)) ((Zfk a0).bind fun y4=>cond (y4.2 != 0) (some ((⟨0,[],[]⟩:Za),y4.2)) ((Zjg y4.1).bind fun y6=>(Zkt y6.1).bind fun y8=>some (y8,y6.2)))
noncomputable def Qx (a0:(List Int)) (a1:(List Int)) (s0_:Int):Option (Int ⊕ (Unit ⊕ Unit)) :=
 cond (decide (s0_ < (a0.length:Int))) ((Xp a0 s0_).bind fun x3=>(Xp a1 s0_).bind fun x4=>cond (x3 != x4) (some (.inr (.inl ()))) (some (.inl (IntKind.i64.wrap (s0_+1))))) (some (.inr (.inr ())))
noncomputable def X3 (a0:(List Int)) (a1:(List Int)):Option Bool :=
 cond ((a0.length:Int) != (a1.length:Int)) (some false) ((Z4 (Qx a0 a1) 0).bind fun (z7:(Unit ⊕ Unit))=>match z7 with | .inl z7=>some false | .inr z7=>some true)
noncomputable def Zf5 (a0:(List Int)) (a1:X4):Option (Za×Int) :=
 (Zj5 ([a0]:List (List Int))).bind fun y25=>(Zd1 y25 a1).bind fun y49=>cond (y49.2 != 0) (some ((⟨0,[],[]⟩:Za),y49.2)) ((Gq y49.1 (a0.length:Int)).bind fun y134=>(cond y134.2 ((X3 y134.1 a0).bind fun y138=>some (cond (!y134.2) true (!y138))) (some true)).bind fun (z136:Bool)=>cond z136 (some ((⟨0,[],[]⟩:Za),5)) (some (y49.1,0)))
noncomputable def Jr (a0:Za) (a1:Int):Option Za :=
 cond (cond (decide (a1 < 0)) true (decide ((a0.Kids.length:Int)≤a1))) (some (⟨0,[],[]⟩:Za)) ((Xp a0.Kids a1).bind fun x2=>some x2)
noncomputable def Gw (a0:Za) (s0_:(Int×(List Zz))):Option ((Int×(List Zz)) ⊕ (List Zz)) :=
 cond (decide (s0_.1 < (a0.Kids.length:Int))) ((Xp a0.Kids s0_.1).bind fun x2=>(Jo x2 0).bind fun y4=>(Jo x2 1).bind fun y5=>(Jo x2 2).bind fun y6=>(Ziu 32 s0_.2 ([(⟨(IntKind.i64.wrap (IntKind.u64.wrap (Qj .u64 y4 4294967295))),(IntKind.u8.wrap (Int.fdiv y4 (2 ^ min (Int.toNat 32) 64))),y5,y6⟩:Zz)]:List Zz)).bind fun l7=>some (.inl ((IntKind.i64.wrap (s0_.1+1)),l7))) (some (.inr s0_.2))
noncomputable def Zai (a0:Za):Option (List Zz) :=
 (Z4 (Gw a0) (0,([]:List Zz))).bind fun (z9:(List Zz))=>some z9
noncomputable def Zef (X8:(Za→Option Zf)) (X0:(Za→Option (List Zl))) (Qc:(Za→Option (List Zt))) (a0:Za):Option Zf :=
 cond (a0.Kind == 0) (some (⟨0,⟨0,[],[]⟩,⟨0,[],[]⟩,[],[],0,[]⟩:Zf)) ((Jo a0 0).bind fun y2=>(cond ((IntKind.i64.wrap (IntKind.u64.wrap (Qj .u64 y2 255))) == 1) ((Jr a0 0).bind fun y4=>(Jr a0 1).bind fun y5=>some ((IntKind.i64.wrap (IntKind.u64.wrap (Qj .u64 y2 255))),y4.Kind,y4.Words,y4.Kids,y5.Kind,y5.Words,y5.Kids,([]:(List Zz)),([]:(List Zl)),0,([]:(List Zt)))) (cond ((IntKind.i64.wrap (IntKind.u64.wrap (Qj .u64 y2 255))) == 2) ((Jr a0 0).bind fun y6=>(Zai y6).bind fun y7=>(Jr a0 1).bind fun y8=>(X0 y8).bind fun y9=>some ((IntKind.i64.wrap (IntKind.u64.wrap (Qj .u64 y2 255))),0,([]:(List Int)),([]:(List Za)),0,([]:(List Int)),([]:(List Za)),y7,y9,0,([]:(List Zt)))) (cond ((IntKind.i64.wrap (IntKind.u64.wrap (Qj .u64 y2 255))) == 3) ((Jr a0 0).bind fun y10=>(Qc y10).bind fun y11=>some ((IntKind.i64.wrap (IntKind.u64.wrap (Qj .u64 y2 255))),0,([]:(List Int)),([]:(List Za)),0,([]:(List Int)),([]:(List Za)),([]:(List Zz)),([]:(List Zl)),(IntKind.i64.wrap (IntKind.u64.wrap (Qj .u64 (Int.fdiv y2 (2 ^ min (Int.toNat 8) 64)) 255))),y11)) (some ((IntKind.i64.wrap (IntKind.u64.wrap (Qj .u64 y2 255))),0,([]:(List Int)),([]:(List Za)),0,([]:(List Int)),([]:(List Za)),([]:(List Zz)),([]:(List Zl)),0,([]:(List Zt))))))).bind fun (z3:(Int×Int×(List Int)×(List Za)×Int×(List Int)×(List Za)×(List Zz)×(List Zl)×Int×(List Zt)))=>some (⟨z3.1,⟨z3.2.1,z3.2.2.1,z3.2.2.2.1⟩,⟨z3.2.2.2.2.1,z3.2.2.2.2.2.1,z3.2.2.2.2.2.2.1⟩,z3.2.2.2.2.2.2.2.1,z3.2.2.2.2.2.2.2.2.1,z3.2.2.2.2.2.2.2.2.2.1,z3.2.2.2.2.2.2.2.2.2.2⟩:Zf))
noncomputable def Zaz (X8:(Za→Option Zf)) (a0:Za) (s0_:(Int×(List Zl))):Option ((Int×(List Zl)) ⊕ (List Zl)) :=
 cond (decide (s0_.1 < (a0.Kids.length:Int))) ((Xp a0.Kids s0_.1).bind fun x2=>(Jo x2 0).bind fun y3=>(Jr x2 0).bind fun y4=>(X8 y4).bind fun y5=>(Ziu 208 s0_.2 ([(⟨(IntKind.i64.wrap (IntKind.u64.wrap (Qj .u64 y3 4294967295))),y5⟩:Zl)]:List Zl)).bind fun l6=>some (.inl ((IntKind.i64.wrap (s0_.1+1)),l6))) (some (.inr s0_.2))
noncomputable def Uy (X8:(Za→Option Zf)) (X0:(Za→Option (List Zl))) (Qc:(Za→Option (List Zt))) (a0:Za):Option (List Zl) :=
 (Z4 (Zaz X8 a0) (0,([]:List Zl))).bind fun (z8:(List Zl))=>some z8
noncomputable def Zby (X8:(Za→Option Zf)) (a0:Za) (s0_:(Int×(List Zt))):Option ((Int×(List Zt)) ⊕ (List Zt)) :=
 cond (decide (s0_.1 < (a0.Kids.length:Int))) ((Xp a0.Kids s0_.1).bind fun x2=>(Jo x2 0).bind fun y4=>(cond ((IntKind.i64.wrap (IntKind.u64.wrap (Qj .u64 y4 255))) == 0) (some ((IntKind.i64.wrap (IntKind.u64.wrap (Qj .u64 y4 255))),(IntKind.i64.wrap (Int.fdiv y4 (2 ^ min (Int.toNat 8) 64))),([]:(List Za)),0,0,([]:(List Int)),([]:(List Za)),0,([]:(List Int)),([]:(List Za)),([]:(List Zz)),([]:(List Zl)),0,([]:(List Zt)))) ((cond ((IntKind.i64.wrap (IntKind.u64.wrap (Qj .u64 y4 255))) == 1) (some ((IntKind.i64.wrap (IntKind.u64.wrap (Qj .u64 y4 255))),((IntKind.i64.wrap (IntKind.u64.wrap (Qj .u64 y4 255))) == 1),(IntKind.i64.wrap (IntKind.u64.wrap (Qj .u64 y4 255))))) (some ((IntKind.i64.wrap (IntKind.u64.wrap (Qj .u64 y4 255))),((IntKind.i64.wrap (IntKind.u64.wrap (Qj .u64 y4 255))) == 2),(IntKind.i64.wrap (IntKind.u64.wrap (Qj .u64 y4 255)))))).bind fun (z6:(Int×Bool×Int))=>cond z6.2.1 ((Jr x2 0).bind fun y8=>some (z6.2.2,0,y8.Kids,0,0,([]:(List Int)),([]:(List Za)),0,([]:(List Int)),([]:(List Za)),([]:(List Zz)),([]:(List Zl)),0,([]:(List Zt)))) (cond (z6.1 == 3) ((Jr x2 0).bind fun y9=>(X8 y9).bind fun y10=>some (z6.2.2,0,([]:(List Za)),y10.Kind,y10.Old.Kind,y10.Old.Words,y10.Old.Kids,y10.New.Kind,y10.New.Words,y10.New.Kids,y10.Words,y10.Kids,y10.List_,y10.Ops)) (some (z6.2.2,0,([]:(List Za)),0,0,([]:(List Int)),([]:(List Za)),0,([]:(List Int)),([]:(List Za)),([]:(List Zz)),([]:(List Zl)),0,([]:(List Zt))))))).bind fun (z5:(Int×Int×(List Za)×Int×Int×(List Int)×(List Za)×Int×(List Int)×(List Za)×(List Zz)×(List Zl)×Int×(List Zt)))=>(Ziu 240 s0_.2 ([(⟨z5.1,z5.2.1,z5.2.2.1,⟨z5.2.2.2.1,⟨z5.2.2.2.2.1,z5.2.2.2.2.2.1,z5.2.2.2.2.2.2.1⟩,⟨z5.2.2.2.2.2.2.2.1,z5.2.2.2.2.2.2.2.2.1,z5.2.2.2.2.2.2.2.2.2.1⟩,z5.2.2.2.2.2.2.2.2.2.2.1,z5.2.2.2.2.2.2.2.2.2.2.2.1,z5.2.2.2.2.2.2.2.2.2.2.2.2.1,z5.2.2.2.2.2.2.2.2.2.2.2.2.2⟩⟩:Zt)]:List Zt)).bind fun l14=>some (.inl ((IntKind.i64.wrap (s0_.1+1)),l14))) (some (.inr s0_.2))
noncomputable def Zev (X8:(Za→Option Zf)) (X0:(Za→Option (List Zl))) (Qc:(Za→Option (List Zt))) (a0:Za):Option (List Zt) :=
 (Z4 (Zby X8 a0) (0,([]:List Zt))).bind fun (z16:(List Zt))=>some z16
noncomputable def Yg:Nat→((Za→Option Zf)×(Za→Option (List Zl))×(Za→Option (List Zt)))
 | 0=>((fun _=>none),(fun _=>none),(fun _=>none))
 | k+1=>(Zef ((Yg k).1) ((Yg k).2.1) ((Yg k).2.2),Uy ((Yg k).1) ((Yg k).2.1) ((Yg k).2.2),Zev ((Yg k).1) ((Yg k).2.1) ((Yg k).2.2))
noncomputable def Zlt (a0:Za):Option Zf:=lim fun k=>(Yg k).1 a0
noncomputable def Ziy (K3:(Za→Za→Option Bool)) (Zy:((List Za)→(List Za)→Option Bool)) (a0:Za) (a1:Za):Option Bool :=
 cond (a0.Kind != a1.Kind) (some false) (cond (a0.Kind == 0) (some true) (cond (a0.Kind == 1) (((U6 a0.Words).bind fun y14=>(U6 a1.Words).bind fun y15=>(X3 y14 y15).bind fun y16=>cond y16 ((Zat a0.Kids).bind fun y17=>(Zat a1.Kids).bind fun y18=>(Zy y17 y18).bind fun y19=>some (cond y16 y19 false)) (some false)).bind fun (z7:Bool)=>some z7) (((X3 a0.Words a1.Words).bind fun y26=>cond y26 ((Zy a0.Kids a1.Kids).bind fun y27=>some (cond y26 y27 false)) (some false)).bind fun (z23:Bool)=>some z23)))
noncomputable def Yn (K3:(Za→Za→Option Bool)) (a0:(List Za)) (a1:(List Za)) (s0_:Int):Option (Int ⊕ (Unit ⊕ Unit)) :=
 cond (decide (s0_ < (a0.length:Int))) ((Xp a0 s0_).bind fun x2=>(Xp a1 s0_).bind fun x4=>(K3 x2 x4).bind fun y6=>cond (!y6) (some (.inr (.inl ()))) (some (.inl (IntKind.i64.wrap (s0_+1))))) (some (.inr (.inr ())))
noncomputable def Yt (K3:(Za→Za→Option Bool)) (Zy:((List Za)→(List Za)→Option Bool)) (a0:(List Za)) (a1:(List Za)):Option Bool :=
 cond ((a0.length:Int) != (a1.length:Int)) (some false) ((Z4 (Yn K3 a0 a1) 0).bind fun (z9:(Unit ⊕ Unit))=>match z9 with | .inl z9=>some false | .inr z9=>some true)
noncomputable def Qu:Nat→((Za→Za→Option Bool)×((List Za)→(List Za)→Option Bool))
 | 0=>((fun _ _=>none),(fun _ _=>none))
 | k+1=>(Ziy ((Qu k).1) ((Qu k).2),Yt ((Qu k).1) ((Qu k).2))
noncomputable def Zqp (a0:Za) (a1:Za):Option Bool:=lim fun k=>(Qu k).1 a0 a1
noncomputable def Zc1 (a0:Za):Option (Zf×Bool) :=
 (Zlt a0).bind fun y2=>((Zls y2).bind fun y10=>cond y10 ((Zjc y2).bind fun y11=>(Zqp y11 a0).bind fun y12=>some (cond (!y10) true (!y12))) (some true)).bind fun (z6:Bool)=>cond z6 (some ((⟨0,⟨0,[],[]⟩,⟨0,[],[]⟩,[],[],0,[]⟩:Zf),false)) (some (y2,true))
noncomputable def Zf7 (a0:(List Int)):Option (Zf×Int) :=
 (Zb5).bind fun y3=>(Zf5 a0 y3).bind fun y4=>cond (y4.2 != 0) (some ((⟨0,⟨0,[],[]⟩,⟨0,[],[]⟩,[],[],0,[]⟩:Zf),y4.2)) ((Zc1 y4.1).bind fun y6=>cond (!y6.2) (some ((⟨0,⟨0,[],[]⟩,⟨0,[],[]⟩,[],[],0,[]⟩:Zf),12)) (some (y6.1,0)))
noncomputable def Gr (a0:(List Int)) (a1:(List Int)) (s0_:Int):Option (Int ⊕ (Unit ⊕ Unit)) :=
 cond (decide (s0_ < (a0.length:Int))) ((Xp a0 s0_).bind fun x3=>(Xp a1 s0_).bind fun x4=>cond (x3 != x4) (some (.inr (.inl ()))) (some (.inl (IntKind.i64.wrap (s0_+1))))) (some (.inr (.inr ())))
noncomputable def Kg (a0:(List Int)) (a1:(List Int)):Option Bool :=
 cond ((a0.length:Int) != (a1.length:Int)) (some false) ((Z4 (Gr a0 a1) 0).bind fun (z7:(Unit ⊕ Unit))=>match z7 with | .inl z7=>some false | .inr z7=>some true)
noncomputable def K7 :Option Bool :=
 (Gv (⟨0,⟨0,[],[]⟩,⟨0,[],[]⟩,[],[],0,[]⟩:Zf) 1).bind fun y2=>(Gv (⟨2,⟨0,[],[]⟩,⟨0,[],[]⟩,[],[],0,[]⟩:Zf) 2).bind fun y4=>(Zf7 ([4294967296,2]:List Int)).bind fun y6=>(cond y2.2 (cond y4.2 ((Kg y2.1 ([0]:List Int)).bind fun y12=>cond y12 ((Kg y4.1 ([4294967296,2]:List Int)).bind fun y13=>some (cond (cond (cond (cond (cond y2.2 y4.2 false) y12 false) y13 false) (y6.2 == 0) false) (y6.1.Kind == 2) false)) (some false)) (some false)) (some false)).bind fun (z9:Bool)=>some z9
noncomputable def U5 (a0:(List Za)):Option Za :=
 cond ((a0.length:Int) == 0) (some (⟨0,[],[]⟩:Za)) (some (⟨9,[],a0⟩:Za))
noncomputable def Gj (a0:Zf) (s0_:(Int×(List Int)×(List Za))):Option ((Int×(List Int)×(List Za)) ⊕ ((List Int)×(List Za))) :=
 cond (decide (s0_.1 < (a0.Words.length:Int))) ((Xp a0.Words s0_.1).bind fun x3=>(Ziu 56 s0_.2.2 ([(⟨1,([(IntKind.u64.wrap ((IntKind.u64.wrap x3.At)+(IntKind.u64.wrap (4294967296 * (IntKind.u64.wrap x3.Mask))))),x3.Old,x3.New]:List Int),[]⟩:Za)]:List Za)).bind fun l4=>some (.inl ((IntKind.i64.wrap (s0_.1+1)),s0_.2.1,l4))) (some (.inr (s0_.2.1,s0_.2.2)))
noncomputable def Gk (Qr:(Zf→Option Za)) (a0:Zf) (s1_:(Int×(List Za))):Option ((Int×(List Za)) ⊕ (List Za)) :=
 cond (decide (s1_.1 < (a0.Kids.length:Int))) ((Xp a0.Kids s1_.1).bind fun x55=>(Qr x55.E).bind fun y187=>(Ziu 56 s1_.2 ([(⟨1,([(IntKind.u64.wrap x55.At)]:List Int),([y187]:List Za)⟩:Za)]:List Za)).bind fun l235=>some (.inl ((IntKind.i64.wrap (s1_.1+1)),l235))) (some (.inr s1_.2))
noncomputable def Gl (Qr:(Zf→Option Za)) (a0:Zf) (s2_:(Int×(List Int)×(List Za))):Option ((Int×(List Int)×(List Za)) ⊕ ((List Int)×(List Za))) :=
 cond (decide (s2_.1 < (a0.Ops.length:Int))) ((Xp a0.Ops s2_.1).bind fun x265=>(cond (x265.Kind == 3) ((Qr x265.E).bind fun y267=>some (([(IntKind.u64.wrap (IntKind.i64.wrap (x265.Kind+(IntKind.i64.wrap (256 * x265.N)))))]:List Int),([y267]:List Za))) (cond (decide (0 < x265.Kind)) (some (([(IntKind.u64.wrap (IntKind.i64.wrap (x265.Kind+(IntKind.i64.wrap (256 * x265.N)))))]:List Int),([(⟨a0.List_,[],x265.L⟩:Za)]:List Za))) (some (([(IntKind.u64.wrap (IntKind.i64.wrap (x265.Kind+(IntKind.i64.wrap (256 * x265.N)))))]:List Int),([]:List Za))))).bind fun (z266:((List Int)×(List Za)))=>(Ziu 56 s2_.2.2 ([(⟨1,z266.1,z266.2⟩:Za)]:List Za)).bind fun l270=>some (.inl ((IntKind.i64.wrap (s2_.1+1)),s2_.2.1,l270))) (some (.inr (s2_.2.1,s2_.2.2)))
noncomputable def Zct (Qr:(Zf→Option Za)) (a0:Zf):Option Za :=
 (cond (a0.Kind == 0) (some (.inr ())) (cond (a0.Kind == 1) (some (.inl (([(IntKind.u64.wrap (IntKind.i64.wrap (a0.Kind+(IntKind.i64.wrap (256 * a0.List_)))))]:List Int),([a0.Old,a0.New]:List Za)))) (cond (a0.Kind == 2) ((Z4 (Gj a0) (0,([(IntKind.u64.wrap (IntKind.i64.wrap (a0.Kind+(IntKind.i64.wrap (256 * a0.List_)))))]:List Int),([]:List Za))).bind fun (z6:((List Int)×(List Za)))=>(Z4 (Gk Qr a0) (0,([]:List Za))).bind fun (z260:(List Za))=>(U5 z6.2).bind fun y262=>(U5 z260).bind fun y263=>some (.inl (z6.1,([y262,y263]:List Za)))) ((Z4 (Gl Qr a0) (0,([(IntKind.u64.wrap (IntKind.i64.wrap (a0.Kind+(IntKind.i64.wrap (256 * a0.List_)))))]:List Int),([]:List Za))).bind fun (z272:((List Int)×(List Za)))=>(U5 z272.2).bind fun y273=>some (.inl (z272.1,([y273]:List Za))))))).bind fun (z1:(((List Int)×(List Za)) ⊕ Unit))=>match z1 with | .inl z1=>some (⟨1,z1.1,z1.2⟩:Za) | .inr z1=>some (⟨0,[],[]⟩:Za)
noncomputable def K6:Nat→(Zf→Option Za)
 | 0=>(fun _=>none)
 | k+1=>Zct ((K6 k))
noncomputable def Zja (a0:Zf):Option Za:=lim fun k=>(K6 k) a0
noncomputable def Gi (Kj:(Za→Za→Option Bool)) (a0:Za) (a1:Za) (s0_:Int):Option (Int ⊕ (Unit ⊕ Unit)) :=
 cond (decide (s0_ < (a0.Kids.length:Int))) ((Xp a0.Kids s0_).bind fun x9=>(Xp a1.Kids s0_).bind fun x10=>(Kj x9 x10).bind fun y11=>cond (!y11) (some (.inr (.inl ()))) (some (.inl (IntKind.i64.wrap (s0_+1))))) (some (.inr (.inr ())))
noncomputable def Zcs (Kj:(Za→Za→Option Bool)) (a0:Za) (a1:Za):Option Bool :=
 (cond (a0.Kind != a1.Kind) (some true) ((Kg a0.Words a1.Words).bind fun y4=>some (cond (cond (a0.Kind != a1.Kind) true (!y4)) true ((a0.Kids.length:Int) != (a1.Kids.length:Int))))).bind fun (z2:Bool)=>cond z2 (some false) ((Z4 (Gi Kj a0 a1) 0).bind fun (z14:(Unit ⊕ Unit))=>match z14 with | .inl z14=>some false | .inr z14=>some true)
noncomputable def K5:Nat→(Za→Za→Option Bool)
 | 0=>(fun _ _=>none)
 | k+1=>Zcs ((K5 k))
noncomputable def Zfu (a0:Za) (a1:Za):Option Bool:=lim fun k=>(K5 k) a0 a1
noncomputable def K8 (a0:Za) (a1:Za):Option Bool :=
 (Zft a0).bind fun y4=>(Zft a1).bind fun y5=>(Zfu y4 y5).bind fun y6=>some y6
noncomputable def J5 (a0:(List Za)) (a1:(List Za)) (s0_:Int):Option (Int ⊕ (Unit ⊕ Unit)) :=
 cond (decide (s0_ < (a0.length:Int))) ((Xp a0 s0_).bind fun x4=>(Xp a1 s0_).bind fun x5=>(K8 x4 x5).bind fun y6=>cond (!y6) (some (.inr (.inl ()))) (some (.inl (IntKind.i64.wrap (s0_+1))))) (some (.inr (.inr ())))
noncomputable def Vz (a0:(List Za)) (a1:(List Za)):Option Bool :=
 cond ((a0.length:Int) != (a1.length:Int)) (some false) ((Z4 (J5 a0 a1) 0).bind fun (z9:(Unit ⊕ Unit))=>match z9 with | .inl z9=>some false | .inr z9=>some true)
noncomputable def Ui (a0:Zf) (a1:Zf) (s0_:Int):Option (Int ⊕ (Unit ⊕ Unit)) :=
 cond (decide (s0_ < (a0.Words.length:Int))) ((Xp a0.Words s0_).bind fun x13=>(Xp a1.Words s0_).bind fun x14=>cond (!((x13.At == x14.At) && ((x13.Mask == x14.Mask) && ((x13.Old == x14.Old) && (x13.New == x14.New))))) (some (.inr (.inl ()))) (some (.inl (IntKind.i64.wrap (s0_+1))))) (some (.inr (.inr ())))
noncomputable def Uj (Qd:(Zf→Zf→Option Bool)) (a0:Zf) (a1:Zf) (s1_:Int):Option (Int ⊕ (Unit ⊕ Unit)) :=
 cond (decide (s1_ < (a0.Kids.length:Int))) (((Xp a0.Kids s1_).bind fun x37=>(Xp a1.Kids s1_).bind fun x39=>cond (x37.At != x39.At) (some true) ((Qd x37.E x39.E).bind fun y45=>some (cond (x37.At != x39.At) true (!y45)))).bind fun (z27:Bool)=>cond z27 (some (.inr (.inl ()))) (some (.inl (IntKind.i64.wrap (s1_+1))))) (some (.inr (.inr ())))
noncomputable def Uk (Qd:(Zf→Zf→Option Bool)) (a0:Zf) (a1:Zf) (s2_:Int):Option (Int ⊕ (Unit ⊕ Unit)) :=
 cond (decide (s2_ < (a0.Ops.length:Int))) ((Xp a0.Ops s2_).bind fun x50=>(Xp a1.Ops s2_).bind fun x51=>(cond (x50.Kind != x51.Kind) (some true) (cond (x50.N != x51.N) (some true) ((Vz x50.L x51.L).bind fun y57=>cond y57 ((Qd x50.E x51.E).bind fun y58=>some (cond (cond (cond (x50.Kind != x51.Kind) true (x50.N != x51.N)) true (!y57)) true (!y58))) (some true)))).bind fun (z54:Bool)=>cond z54 (some (.inr (.inl ()))) (some (.inl (IntKind.i64.wrap (s2_+1))))) (some (.inr (.inr ())))
noncomputable def Zbs (Qd:(Zf→Zf→Option Bool)) (a0:Zf) (a1:Zf):Option Bool :=
 (cond (a0.Kind != a1.Kind) (some true) (cond (a0.List_ != a1.List_) (some true) ((K8 a0.Old a1.Old).bind fun y6=>cond y6 ((K8 a0.New a1.New).bind fun y7=>some (cond (cond (cond (cond (cond (cond (a0.Kind != a1.Kind) true (a0.List_ != a1.List_)) true (!y6)) true (!y7)) true ((a0.Words.length:Int) != (a1.Words.length:Int))) true ((a0.Kids.length:Int) != (a1.Kids.length:Int))) true ((a0.Ops.length:Int) != (a1.Ops.length:Int)))) (some true)))).bind fun (z3:Bool)=>cond z3 (some false) ((Z4 (Ui a0 a1) 0).bind fun (z17:(Unit ⊕ Unit))=>match z17 with | .inl z17=>some false | .inr z17=>(Z4 (Uj Qd a0 a1) 0).bind fun (z49:(Unit ⊕ Unit))=>match z49 with | .inl z49=>some false | .inr z49=>(Z4 (Uk Qd a0 a1) 0).bind fun (z64:(Unit ⊕ Unit))=>match z64 with | .inl z64=>some false | .inr z64=>some true)
noncomputable def J9:Nat→(Zf→Zf→Option Bool)
 | 0=>(fun _ _=>none)
 | k+1=>Zbs ((J9 k))
noncomputable def Zh7 (a0:Zf) (a1:Zf):Option Bool:=lim fun k=>(J9 k) a0 a1
noncomputable def Zaf (a0:Zf):Option Bool :=
 (Zcy a0).bind fun y2=>cond (!y2) ((K7).bind fun y4=>some y4) ((Zjc a0).bind fun y6=>(Zja a0).bind fun y9=>(Zfu y6 y9).bind fun y10=>cond (!y10) (some false) ((Zc1 y6).bind fun y12=>((U3 y6 64).bind fun y22=>cond y22 (cond y12.2 ((Zh7 a0 y12.1).bind fun y23=>cond y23 ((K7).bind fun y24=>some (cond (cond (!y22) true (cond y12.2 y23 false)) y24 false)) (some false)) (some false)) ((K7).bind fun y25=>some y25)).bind fun (z17:Bool)=>some z17))
end Go.Proofs.YtmlcnhambfkjaaaGreat
