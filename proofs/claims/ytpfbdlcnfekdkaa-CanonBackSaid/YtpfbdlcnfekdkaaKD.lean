/- Part KD of this seat's mirrors: functions of the seat's program, and the plain functions that they are; each theorem bears its own conditions. -/
import Derived.Test.YtpfbdlcnfekdkaaH26
namespace Go.Proofs.Ytpfbdlcnfekdkaa
open Go.RowKit
set_option linter.unusedVariables false
set_option linter.unusedSimpArgs false
set_option maxRecDepth 100000
set_option maxHeartbeats 4000000
structure Za where
 Kind : Int
 Words : (List Int)
 Kids : (List Za)
noncomputable def Xs (X2 : (Za → Int → Int → Option Int)) (a0 : Za) (a1 : Int) (s0_ : (Int × Int)) : Option ((Int × Int) ⊕ Int) :=
 cond (cond (decide (s0_.2 < (a0.Kids.length : Int))) (decide (0 ≤ s0_.1)) false) ((Y5 a0.Kids s0_.2).bind fun x1 => (X2 x1 (IntKind.i64.wrap (a1 - 1)) s0_.1).bind fun y2 => some (.inl (y2, (IntKind.i64.wrap (s0_.2 + 1))))) (some (.inr s0_.1))
noncomputable def Xy (X2 : (Za → Int → Int → Option Int)) (a0 : Za) (a1 : Int) (a2 : Int) : Option Int :=
 cond (cond (a1 == 0) true (decide ((IntKind.i64.wrap ((IntKind.i64.wrap (a2 - 1)) - (a0.Words.length : Int))) < 0))) (some (-1)) ((Zs (Xs X2 a0 a1) ((IntKind.i64.wrap ((IntKind.i64.wrap (a2 - 1)) - (a0.Words.length : Int))), 0)).bind fun (z4 : Int) => some z4)
noncomputable def Yi : Nat → (Za → Int → Int → Option Int)
 | 0 => (fun _ _ _ => none)
 | k + 1 => Xy ((Yi k))
noncomputable def Zb6 (a0 : Za) (a1 : Int) (a2 : Int) : Option Int := lim fun k => (Yi k) a0 a1 a2
noncomputable def Zcn (a0 : Za) : Option Bool :=
 (Zb6 a0 80 3000).bind fun y2 => some (decide (0 ≤ y2))
noncomputable def Zb8 (a0 : Int) : Option Bool :=
 some (cond (decide (2 ≤ a0)) (decide (a0 ≤ 9)) false)
noncomputable def Vl (a0 : (List Za)) (s0_ : Int) : Option (Int ⊕ (Unit ⊕ Unit)) :=
 cond (decide (s0_ < (a0.length : Int))) ((Y5 a0 s0_).bind fun x2 => cond (x2.Kind != 1) (some (.inr (.inl ()))) (some (.inl (IntKind.i64.wrap (s0_ + 1))))) (some (.inr (.inr ())))
noncomputable def Gj (a0 : (List Za)) : Option Bool :=
 (Zs (Vl a0) 0).bind fun (z5 : (Unit ⊕ Unit)) => match z5 with | .inl z5 => some false | .inr z5 => some true
noncomputable def Q1 (a0 : Int) : Option (Int × Bool) :=
 ((some (⟨[0, 1, 8, 16, 32, 64], rfl⟩ : (Arr Int 6)))).bind fun y6 => ((some (⟨[0, 0, 0, 0, 0, 0], rfl⟩ : (Arr Int 6)))).bind fun y8 => cond (cond (decide (a0 < 0)) true (decide (6 ≤ a0))) (some (0, false)) ((Y5 y6.1 a0).bind fun x12 => some (x12, true))
noncomputable def Zdv (a0 : Int) (a1 : Int) : Option Bool :=
 (Q1 a0).bind fun y2 => (cond y2.2 ((Xi (0 ≤ y2.1)).bind fun u6 => some (cond y2.2 ((Int.fdiv a1 (2 ^ min (Int.toNat y2.1) 64)) == 0) false)) (some false)).bind fun (z4 : Bool) => some z4
noncomputable def Zd4 (Y3 : (Za → Option Bool)) (Yw : (Za → Int → Option Bool)) (Yg : ((List Za) → Int → Option Bool)) (Yn : ((List Za) → Int → Option Bool)) (a0 : Za) : Option Bool :=
 cond (a0.Kind == 10) (some (cond ((a0.Words.length : Int) == 1) ((a0.Kids.length : Int) == 0) false)) ((Yw a0 64).bind fun y2 => some y2)
noncomputable def Zd5 (Y3 : (Za → Option Bool)) (Yw : (Za → Int → Option Bool)) (Yg : ((List Za) → Int → Option Bool)) (Yn : ((List Za) → Int → Option Bool)) (a0 : Za) (a1 : Int) : Option Bool :=
 cond (a0.Kind == 0) (some (cond ((a0.Words.length : Int) == 0) ((a0.Kids.length : Int) == 0) false)) (cond (a1 == 0) (some false) (cond (a0.Kind == 1) ((cond (decide ((a0.Words.length : Int) < 65536)) (cond (decide ((a0.Kids.length : Int) < 65536)) ((Yg a0.Kids (IntKind.i64.wrap (a1 - 1))).bind fun y4 => some (cond (cond (decide ((a0.Words.length : Int) < 65536)) (decide ((a0.Kids.length : Int) < 65536)) false) y4 false)) (some false)) (some false)).bind fun (z2 : Bool) => some z2) ((Zb8 a0.Kind).bind fun y8 => cond (cond (cond (!y8) true (decide (0 < (a0.Words.length : Int)))) true (decide (1048576 ≤ (a0.Kids.length : Int)))) (some false) (cond (a0.Kind == 8) ((Yg a0.Kids (IntKind.i64.wrap (a1 - 1))).bind fun y10 => some y10) (cond (a0.Kind == 9) (((Gj a0.Kids).bind fun y16 => cond y16 ((Yg a0.Kids (IntKind.i64.wrap (a1 - 1))).bind fun y17 => some (cond y16 y17 false)) (some false)).bind fun (z13 : Bool) => some z13) ((Yn a0.Kids (IntKind.i64.wrap (a0.Kind - 2))).bind fun y20 => some y20))))))
noncomputable def Ul (Yw : (Za → Int → Option Bool)) (a0 : (List Za)) (a1 : Int) (s0_ : Int) : Option (Int ⊕ (Unit ⊕ Unit)) :=
 cond (decide (s0_ < (a0.length : Int))) ((Y5 a0 s0_).bind fun x2 => (Yw x2 a1).bind fun y4 => cond (!y4) (some (.inr (.inl ()))) (some (.inl (IntKind.i64.wrap (s0_ + 1))))) (some (.inr (.inr ())))
noncomputable def Za9 (Y3 : (Za → Option Bool)) (Yw : (Za → Int → Option Bool)) (Yg : ((List Za) → Int → Option Bool)) (Yn : ((List Za) → Int → Option Bool)) (a0 : (List Za)) (a1 : Int) : Option Bool :=
 (Zs (Ul Yw a0 a1) 0).bind fun (z7 : (Unit ⊕ Unit)) => match z7 with | .inl z7 => some false | .inr z7 => some true
noncomputable def Uk (Y3 : (Za → Option Bool)) (a0 : (List Za)) (a1 : Int) (s0_ : Int) : Option (Int ⊕ (Unit ⊕ Unit)) :=
 cond (decide (s0_ < (a0.length : Int))) ((Y5 a0 s0_).bind fun x2 => (cond (x2.Kind != 10) (some true) ((Y3 x2).bind fun y10 => cond y10 ((Y5 x2.Words 0).bind fun x11 => (Zdv a1 x11).bind fun y12 => some (cond (cond (x2.Kind != 10) true (!y10)) true (!y12))) (some true))).bind fun (z6 : Bool) => cond z6 (some (.inr (.inl ()))) (some (.inl (IntKind.i64.wrap (s0_ + 1))))) (some (.inr (.inr ())))
noncomputable def Za8 (Y3 : (Za → Option Bool)) (Yw : (Za → Int → Option Bool)) (Yg : ((List Za) → Int → Option Bool)) (Yn : ((List Za) → Int → Option Bool)) (a0 : (List Za)) (a1 : Int) : Option Bool :=
 (Zs (Uk Y3 a0 a1) 0).bind fun (z17 : (Unit ⊕ Unit)) => match z17 with | .inl z17 => some false | .inr z17 => some true
noncomputable def Zt : Nat → ((Za → Option Bool) × (Za → Int → Option Bool) × ((List Za) → Int → Option Bool) × ((List Za) → Int → Option Bool))
 | 0 => ((fun _ => none), (fun _ _ => none), (fun _ _ => none), (fun _ _ => none))
 | k + 1 => (Zd4 ((Zt k).1) ((Zt k).2.1) ((Zt k).2.2.1) ((Zt k).2.2.2), Zd5 ((Zt k).1) ((Zt k).2.1) ((Zt k).2.2.1) ((Zt k).2.2.2), Za9 ((Zt k).1) ((Zt k).2.1) ((Zt k).2.2.1) ((Zt k).2.2.2), Za8 ((Zt k).1) ((Zt k).2.1) ((Zt k).2.2.1) ((Zt k).2.2.2))
noncomputable def Zkz (a0 : Za) : Option Bool := lim fun k => (Zt k).1 a0
noncomputable def V3 (a0 : (List Int)) (s0_ : Int) : Option (Int ⊕ Int) :=
 (cond (decide (0 < s0_)) ((Y5 a0 (IntKind.i64.wrap (s0_ - 1))).bind fun x4 => some (cond (decide (0 < s0_)) (x4 == 0) false)) (some false)).bind fun (z2 : Bool) => cond z2 (some (.inl (IntKind.i64.wrap (s0_ - 1)))) (some (.inr s0_))
noncomputable def Zal (a0 : (List Int)) : Option (List Int) :=
 (Zs (V3 a0) (a0.length : Int)).bind fun (z7 : Int) => (Zif a0 0 z7).bind fun l9 => some l9
noncomputable def Us (a0 : (List Za)) (s0_ : Int) : Option (Int ⊕ Int) :=
 (cond (decide (0 < s0_)) ((Y5 a0 (IntKind.i64.wrap (s0_ - 1))).bind fun x6 => some (cond (decide (0 < s0_)) (x6.Kind == 0) false)) (some false)).bind fun (z3 : Bool) => cond z3 (some (.inl (IntKind.i64.wrap (s0_ - 1)))) (some (.inr s0_))
noncomputable def Zbf (a0 : (List Za)) : Option (List Za) :=
 (Zs (Us a0) (a0.length : Int)).bind fun (z10 : Int) => (Zif a0 0 z10).bind fun l12 => some l12
noncomputable def Zae (Zaw : (Za → Option Za)) (z1 : ((List Int) × (List Za))) (s0_ : (Int × (List Za))) : Option ((Int × (List Za)) ⊕ (List Za)) :=
 cond (decide (s0_.1 < (z1.2.length : Int))) ((Y5 z1.2 s0_.1).bind fun x9 => (Zaw x9).bind fun y10 => (Y5 s0_.2 s0_.1).bind fun x11 => some (.inl ((IntKind.i64.wrap (s0_.1 + 1)), (Qy s0_.2 s0_.1 y10)))) (some (.inr s0_.2))
noncomputable def Ze7 (Zaw : (Za → Option Za)) (a0 : Za) : Option Za :=
 cond (a0.Kind == 0) (some (⟨0, [], []⟩ : Za)) ((cond (a0.Kind == 1) ((Zal a0.Words).bind fun y2 => (Zbf a0.Kids).bind fun y3 => some (y2, y3)) (some (a0.Words, a0.Kids))).bind fun (z1 : ((List Int) × (List Za))) => (cond (decide (0 < (z1.2.length : Int))) ((Zgl 56 (z1.2.length : Int) (⟨(0 : Int), [], []⟩ : Za)).bind fun l6 => some l6) (some ([] : List Za))).bind fun (z5 : (List Za)) => (Zs (Zae Zaw z1) (0, z5)).bind fun (z14 : (List Za)) => some (⟨a0.Kind, z1.1, z14⟩ : Za))
noncomputable def Ua : Nat → (Za → Option Za)
 | 0 => (fun _ => none)
 | k + 1 => Ze7 ((Ua k))
noncomputable def Zfo (a0 : Za) : Option Za := lim fun k => (Ua k) a0
noncomputable def Ziq (a0 : Int) : Option Bool :=
 some (cond (decide (2 ≤ a0)) (decide (a0 ≤ 7)) false)
noncomputable def Zdw (a0 : Int) (a1 : Int) : Option Int :=
 (Q1 a0).bind fun y2 => cond (cond (cond (!y2.2) true (decide (a1 < 0))) true (decide (1099511627776 < a1))) (some 0) (some (IntKind.i64.wrap (Int.tdiv (IntKind.i64.wrap ((IntKind.i64.wrap (a1 * y2.1)) + 63)) 64)))
noncomputable def Zbe (a0 : Za) (s0_ : (Int × Int × Int)) : Option ((Int × Int × Int) ⊕ (Int × Int)) :=
 cond (decide (s0_.2.2 < (a0.Kids.length : Int))) ((Y5 a0.Kids s0_.2.2).bind fun x2 => some (.inl ((if s0_.1 < (x2.Words.length : Int) then (x2.Words.length : Int) else s0_.1), (if s0_.2.1 < (x2.Kids.length : Int) then (x2.Kids.length : Int) else s0_.2.1), (IntKind.i64.wrap (s0_.2.2 + 1))))) (some (.inr (s0_.1, s0_.2.1)))
noncomputable def Za3 (a0 : Za) : Option (Int × Int) :=
 (Zs (Zbe a0) (0, 0, 0)).bind fun (z4 : (Int × Int)) => some (z4.1, z4.2)
noncomputable def Zaf (Qk : ((List Za) → Option Int)) (a0 : Za) (s0_ : (Int × Int)) : Option ((Int × Int) ⊕ Int) :=
 cond (decide (s0_.2 < (a0.Kids.length : Int))) ((Y5 a0.Kids s0_.2).bind fun x12 => (Qk x12.Kids).bind fun y13 => some (.inl ((IntKind.i64.wrap (s0_.1 + y13)), (IntKind.i64.wrap (s0_.2 + 1))))) (some (.inr s0_.1))
noncomputable def Ze8 (Ko : (Za → Option Int)) (Qk : ((List Za) → Option Int)) (a0 : Za) : Option Int :=
 cond (a0.Kind == 1) ((Qk a0.Kids).bind fun y2 => some (IntKind.i64.wrap ((IntKind.i64.wrap ((a0.Words.length : Int) + (a0.Kids.length : Int))) + y2))) ((Ziq a0.Kind).bind fun y4 => cond y4 ((Zdw (IntKind.i64.wrap (a0.Kind - 2)) (a0.Kids.length : Int)).bind fun y6 => some y6) (cond (a0.Kind == 8) ((Qk a0.Kids).bind fun y8 => some (IntKind.i64.wrap ((a0.Kids.length : Int) + y8))) (cond (a0.Kind == 9) ((Za3 a0).bind fun y10 => (Zs (Zaf Qk a0) ((IntKind.i64.wrap (1 + (IntKind.i64.wrap ((a0.Kids.length : Int) * (IntKind.i64.wrap (y10.1 + y10.2)))))), 0)).bind fun (z15 : Int) => some z15) (some 0))))
noncomputable def U4 (Ko : (Za → Option Int)) (a0 : (List Za)) (s0_ : (Int × Int)) : Option ((Int × Int) ⊕ Int) :=
 cond (decide (s0_.2 < (a0.length : Int))) ((Y5 a0 s0_.2).bind fun x2 => (Ko x2).bind fun y3 => some (.inl ((IntKind.i64.wrap (s0_.1 + y3)), (IntKind.i64.wrap (s0_.2 + 1))))) (some (.inr s0_.1))
noncomputable def Zd6 (Ko : (Za → Option Int)) (Qk : ((List Za) → Option Int)) (a0 : (List Za)) : Option Int :=
 (Zs (U4 Ko a0) (0, 0)).bind fun (z5 : Int) => some z5
noncomputable def Y6 : Nat → ((Za → Option Int) × ((List Za) → Option Int))
 | 0 => ((fun _ => none), (fun _ => none))
 | k + 1 => (Ze8 ((Y6 k).1) ((Y6 k).2), Zd6 ((Y6 k).1) ((Y6 k).2))
noncomputable def Zmr (a0 : Za) : Option Int := lim fun k => (Y6 k).1 a0
noncomputable def Zfp (a0 : Za) : Option Int :=
 (Zfo a0).bind fun y3 => (Zmr y3).bind fun y4 => some y4
structure Zy where
 Kind : Int
 Off : Int
 Data : Int
 Ptrs : Int
 Code : Int
 Count : Int
 Segment : Int
 Double : Bool
noncomputable def Va (a0 : Za) : Option Zy :=
 cond (a0.Kind == 1) (some (⟨1, 0, (a0.Words.length : Int), (a0.Kids.length : Int), 0, 0, 0, false⟩ : Zy)) (cond (a0.Kind == 9) ((Za3 a0).bind fun y2 => some (⟨2, 0, 0, 0, 7, (IntKind.i64.wrap ((a0.Kids.length : Int) * (IntKind.i64.wrap (y2.1 + y2.2)))), 0, false⟩ : Zy)) (some (⟨2, 0, 0, 0, (IntKind.i64.wrap (a0.Kind - 2)), (a0.Kids.length : Int), 0, false⟩ : Zy)))
noncomputable def Zdu (a0 : Int) : Option Int :=
 ((some (⟨[0, 1, 8, 16, 32, 64, 64], rfl⟩ : (Arr Int 7)))).bind fun y6 => ((some (⟨[0, 0, 0, 0, 0, 0, 0], rfl⟩ : (Arr Int 7)))).bind fun y8 => (Y5 y6.1 a0).bind fun x12 => some x12
noncomputable def Xq (a0 : Zy) : Option (Int × Bool) :=
 cond (a0.Kind == 1) (some ((IntKind.i64.wrap (a0.Data + a0.Ptrs)), true)) (cond (cond (a0.Kind == 2) (a0.Code == 7) false) (some ((IntKind.i64.wrap (a0.Count + 1)), true)) (cond (cond (cond (cond (cond (a0.Kind == 2) (decide (0 ≤ a0.Code)) false) (decide (a0.Code < 7)) false) (decide (0 ≤ a0.Count)) false) (decide (a0.Count ≤ 536870911)) false) ((Zdu a0.Code).bind fun y2 => some ((IntKind.i64.wrap (Int.tdiv (IntKind.i64.wrap ((IntKind.i64.wrap (a0.Count * y2)) + 63)) 64)), true)) (some (0, false))))
noncomputable def Zjv (a0 : Zy) : Option Int :=
 cond (a0.Kind == 1) (some (IntKind.u64.wrap (Zbw .u64 (IntKind.u64.wrap (Zbw .u64 (IntKind.u64.wrap (IntKind.u32.wrap ((IntKind.u32.wrap a0.Off) * 2 ^ min (Int.toNat 2) 32))) (IntKind.u64.wrap ((IntKind.u64.wrap a0.Data) * 2 ^ min (Int.toNat 32) 64)))) (IntKind.u64.wrap ((IntKind.u64.wrap a0.Ptrs) * 2 ^ min (Int.toNat 48) 64))))) (cond (a0.Kind == 2) (some (IntKind.u64.wrap (Zbw .u64 (IntKind.u64.wrap (Zbw .u64 (IntKind.u64.wrap (Zbw .u64 1 (IntKind.u64.wrap (IntKind.u32.wrap ((IntKind.u32.wrap a0.Off) * 2 ^ min (Int.toNat 2) 32))))) (IntKind.u64.wrap ((IntKind.u64.wrap a0.Code) * 2 ^ min (Int.toNat 32) 64)))) (IntKind.u64.wrap ((IntKind.u64.wrap a0.Count) * 2 ^ min (Int.toNat 35) 64))))) (cond (a0.Kind == 3) ((cond a0.Double (some (IntKind.u64.wrap (Zbw .u64 (IntKind.u64.wrap (Zbw .u64 (IntKind.u64.wrap (Zbw .u64 2 (IntKind.u64.wrap ((IntKind.u64.wrap a0.Off) * 2 ^ min (Int.toNat 3) 64)))) (IntKind.u64.wrap ((IntKind.u64.wrap a0.Segment) * 2 ^ min (Int.toNat 32) 64)))) 4))) (some (IntKind.u64.wrap (Zbw .u64 (IntKind.u64.wrap (Zbw .u64 2 (IntKind.u64.wrap ((IntKind.u64.wrap a0.Off) * 2 ^ min (Int.toNat 3) 64)))) (IntKind.u64.wrap ((IntKind.u64.wrap a0.Segment) * 2 ^ min (Int.toNat 32) 64)))))).bind fun (z1 : Int) => some z1) (some 0)))
noncomputable def Zef (a0 : Int) : Option Int :=
 some (IntKind.i64.wrap (Int.fdiv (IntKind.i32.wrap (IntKind.u32.wrap a0)) (2 ^ min (Int.toNat 2) 32)))
noncomputable def Qd (a0 : Int) (a1 : Int) (a2 : Int) : Option Int :=
 (Xi (0 ≤ a1)).bind fun u3 => (Xi (0 ≤ a2)).bind fun u4 => some (IntKind.i64.wrap (IntKind.u64.wrap (Zb2 .u64 (Int.fdiv a0 (2 ^ min (Int.toNat a1) 64)) (IntKind.u64.wrap ((IntKind.u64.wrap (1 * 2 ^ min (Int.toNat a2) 64)) - 1)))))
noncomputable def Kc (a0 : Int) : Option Zy :=
 cond (a0 == 0) (some (⟨0, 0, 0, 0, 0, 0, 0, false⟩ : Zy)) (cond ((IntKind.u64.wrap (Zb2 .u64 a0 3)) == 0) ((Zef a0).bind fun y4 => (Qd a0 32 16).bind fun y5 => (Qd a0 48 16).bind fun y6 => some (⟨1, y4, y5, y6, 0, 0, 0, false⟩ : Zy)) (cond ((IntKind.u64.wrap (Zb2 .u64 a0 3)) == 1) ((Zef a0).bind fun y10 => (Qd a0 32 3).bind fun y11 => (Qd a0 35 29).bind fun y12 => some (⟨2, y10, 0, 0, y11, y12, 0, false⟩ : Zy)) (cond ((IntKind.u64.wrap (Zb2 .u64 a0 3)) == 2) ((Qd a0 3 29).bind fun y15 => (Qd a0 32 32).bind fun y16 => some (⟨3, y15, 0, 0, 0, 0, y16, ((IntKind.u64.wrap (Zb2 .u64 (Int.fdiv a0 (2 ^ min (Int.toNat 2) 64)) 1)) == 1)⟩ : Zy)) (some (⟨4, 0, 0, 0, 0, 0, 0, false⟩ : Zy)))))
noncomputable def Vb (a0 : Zy) : Option (Int × Bool) :=
 (Zjv a0).bind fun y2 => (cond (a0.Kind != 4) ((Kc y2).bind fun y6 => some (cond (a0.Kind != 4) ((y6.Kind == a0.Kind) && ((y6.Off == a0.Off) && ((y6.Data == a0.Data) && ((y6.Ptrs == a0.Ptrs) && ((y6.Code == a0.Code) && ((y6.Count == a0.Count) && ((y6.Segment == a0.Segment) && (y6.Double == a0.Double)))))))) false)) (some false)).bind fun (z4 : Bool) => some (y2, z4)
noncomputable def Zfq (a0 : Za) (a1 : Int) : Option Int :=
 cond (cond (decide (a1 < 0)) true (decide ((a0.Words.length : Int) ≤ a1))) (some 0) ((Y5 a0.Words a1).bind fun x2 => some x2)
noncomputable def Zbp (a0 : Int) (a1 : (List Int)) (s0_ : (Bool × Int)) : Option ((Bool × Int) ⊕ Bool) :=
 cond (decide (s0_.2 < (a1.length : Int))) ((Y5 a1 s0_.2).bind fun x4 => cond s0_.1 ((Zdv a0 x4).bind fun y5 => some (.inl ((cond s0_.1 y5 false), (IntKind.i64.wrap (s0_.2 + 1))))) (some (.inl (false, (IntKind.i64.wrap (s0_.2 + 1)))))) (some (.inr s0_.1))
noncomputable def Gt (a1 : (List Int)) (y2 : (Int × Bool)) (s1_ : (Int × (List Int))) : Option ((Int × (List Int)) ⊕ (List Int)) :=
 cond (decide (s1_.1 < (a1.length : Int))) ((Y5 a1 s1_.1).bind fun x16 => (Xi ((IntKind.i64.wrap (Int.tdiv 64 y2.1)) ≠ 0)).bind fun u17 => (Y5 s1_.2 (IntKind.i64.wrap (Int.tdiv s1_.1 (IntKind.i64.wrap (Int.tdiv 64 y2.1))))).bind fun x18 => (Xi ((IntKind.i64.wrap (Int.tdiv 64 y2.1)) ≠ 0)).bind fun u19 => (Xi (0 ≤ (IntKind.i64.wrap ((Int.tmod s1_.1 (IntKind.i64.wrap (Int.tdiv 64 y2.1))) * y2.1)))).bind fun u20 => some (.inl ((IntKind.i64.wrap (s1_.1 + 1)), (Qy s1_.2 (IntKind.i64.wrap (Int.tdiv s1_.1 (IntKind.i64.wrap (Int.tdiv 64 y2.1)))) (IntKind.u64.wrap (Zbw .u64 x18 (IntKind.u64.wrap (x16 * 2 ^ min (Int.toNat (IntKind.i64.wrap ((Int.tmod s1_.1 (IntKind.i64.wrap (Int.tdiv 64 y2.1))) * y2.1))) 64)))))))) (some (.inr s1_.2))
noncomputable def Ze1 (a0 : Int) (a1 : (List Int)) : Option ((List Int) × Bool) :=
 (Q1 a0).bind fun y2 => (Zs (Zbp a0 a1) (y2.2, 0)).bind fun (z8 : Bool) => cond (!z8) (some (([] : (List Int)), false)) ((Zdw a0 (a1.length : Int)).bind fun y11 => (Zgl 8 y11 (0 : Int)).bind fun l12 => cond (y2.1 == 0) (some (l12, true)) ((Xi (y2.1 ≠ 0)).bind fun u14 => (Zs (Gt a1 y2) (0, l12)).bind fun (z24 : (List Int)) => some (z24, true)))
noncomputable def Uq (a0 : Za) (s0_ : (Int × (List Int))) : Option ((Int × (List Int)) ⊕ (List Int)) :=
 cond (decide (s0_.1 < (a0.Kids.length : Int))) ((Y5 a0.Kids s0_.1).bind fun x2 => (Zfq x2 0).bind fun y3 => (Zeq 8 s0_.2 ([y3] : List Int)).bind fun l4 => some (.inl ((IntKind.i64.wrap (s0_.1 + 1)), l4))) (some (.inr s0_.2))
noncomputable def Zbd (a0 : Za) : Option (List Int) :=
 (Zs (Uq a0) (0, ([] : List Int))).bind fun (z6 : (List Int)) => (Ze1 (IntKind.i64.wrap (a0.Kind - 2)) z6).bind fun y8 => some y8.1
structure Ze where
 words : (List Int)
 next : Int
noncomputable def Qb (Z6 : (Ze → Int → Za → Option Ze)) (Zz : (Ze → Int → Za → Option Ze)) (Zu : (Ze → Int → (List Za) → Option Ze)) (Z0 : (Ze → Int → Za → Option Ze)) (a0 : Ze) (a1 : Int) (a2 : Za) : Option Ze :=
 cond (a2.Kind == 0) (some (⟨a0.words, a0.next⟩ : Ze)) ((Va a2).bind fun y2 => (Xq y2).bind fun y4 => (cond (cond (y2.Kind == 1) (y4.1 == 0) false) (some (-1)) (some (IntKind.i64.wrap ((IntKind.i64.wrap (a0.next - a1)) - 1)))).bind fun (z5 : Int) => (Vb (⟨y2.Kind, z5, y2.Data, y2.Ptrs, y2.Code, y2.Count, y2.Segment, y2.Double⟩ : Zy)).bind fun y10 => (Y5 a0.words a1).bind fun x11 => (Zz (⟨(Qy a0.words a1 y10.1), (IntKind.i64.wrap (a0.next + y4.1))⟩ : Ze) a0.next a2).bind fun y13 => some (⟨y13.words, y13.next⟩ : Ze))
noncomputable def Xp (Z6 : (Ze → Int → Za → Option Ze)) (Zz : (Ze → Int → Za → Option Ze)) (Zu : (Ze → Int → (List Za) → Option Ze)) (Z0 : (Ze → Int → Za → Option Ze)) (a0 : Ze) (a1 : Int) (a2 : Za) : Option Ze :=
 cond (a2.Kind == 1) ((Xi (0 < List.length a0.words ∧ 0 ≤ a1 ∧ a1 ≤ (List.length a0.words : Int))).bind fun u1 => (Zu (⟨(Zji a0.words a1 a2.Words), a0.next⟩ : Ze) (IntKind.i64.wrap (a1 + ((min (List.length a2.Words) (Int.toNat ((List.length a0.words : Int) - a1)) : Nat) : Int))) a2.Kids).bind fun y3 => some (⟨y3.words, y3.next⟩ : Ze)) (cond (a2.Kind == 8) ((Zu (⟨a0.words, a0.next⟩ : Ze) a1 a2.Kids).bind fun y4 => some (⟨y4.words, y4.next⟩ : Ze)) (cond (a2.Kind == 9) ((Z0 (⟨a0.words, a0.next⟩ : Ze) a1 a2).bind fun y5 => some (⟨y5.words, y5.next⟩ : Ze)) ((Xi (0 < List.length a0.words ∧ 0 ≤ a1 ∧ a1 ≤ (List.length a0.words : Int))).bind fun u6 => (Zbd a2).bind fun y7 => some (⟨(Zji a0.words a1 y7), a0.next⟩ : Ze))))
noncomputable def Q3 (Z6 : (Ze → Int → Za → Option Ze)) (a1 : Int) (a2 : (List Za)) (s0_ : (Int × (List Int) × Int)) : Option ((Int × (List Int) × Int) ⊕ ((List Int) × Int)) :=
 cond (decide (s0_.1 < (a2.length : Int))) ((Y5 a2 s0_.1).bind fun x2 => (Z6 (⟨s0_.2.1, s0_.2.2⟩ : Ze) (IntKind.i64.wrap (a1 + s0_.1)) x2).bind fun y3 => some (.inl ((IntKind.i64.wrap (s0_.1 + 1)), y3.words, y3.next))) (some (.inr (s0_.2.1, s0_.2.2)))
noncomputable def J7 (Z6 : (Ze → Int → Za → Option Ze)) (Zz : (Ze → Int → Za → Option Ze)) (Zu : (Ze → Int → (List Za) → Option Ze)) (Z0 : (Ze → Int → Za → Option Ze)) (a0 : Ze) (a1 : Int) (a2 : (List Za)) : Option Ze :=
 (Zs (Q3 Z6 a1 a2) (0, a0.words, a0.next)).bind fun (z5 : ((List Int) × Int)) => some (⟨z5.1, z5.2⟩ : Ze)
noncomputable def Jd (a1 : Int) (a2 : Za) (y2 : (Int × Int)) (s0_ : (Int × (List Int))) : Option ((Int × (List Int)) ⊕ (List Int)) :=
 cond (decide (s0_.1 < (a2.Kids.length : Int))) ((Y5 a2.Kids s0_.1).bind fun x9 => (Xi (0 < List.length s0_.2 ∧ 0 ≤ (IntKind.i64.wrap ((IntKind.i64.wrap (a1 + 1)) + (IntKind.i64.wrap (s0_.1 * (IntKind.i64.wrap (y2.1 + y2.2)))))) ∧ (IntKind.i64.wrap ((IntKind.i64.wrap (a1 + 1)) + (IntKind.i64.wrap (s0_.1 * (IntKind.i64.wrap (y2.1 + y2.2)))))) ≤ (List.length s0_.2 : Int))).bind fun u10 => some (.inl ((IntKind.i64.wrap (s0_.1 + 1)), (Zji s0_.2 (IntKind.i64.wrap ((IntKind.i64.wrap (a1 + 1)) + (IntKind.i64.wrap (s0_.1 * (IntKind.i64.wrap (y2.1 + y2.2)))))) x9.Words)))) (some (.inr s0_.2))
noncomputable def Je (Zu : (Ze → Int → (List Za) → Option Ze)) (a1 : Int) (a2 : Za) (y2 : (Int × Int)) (s1_ : (Int × (List Int) × Int)) : Option ((Int × (List Int) × Int) ⊕ ((List Int) × Int)) :=
 cond (decide (s1_.1 < (a2.Kids.length : Int))) ((Y5 a2.Kids s1_.1).bind fun x15 => (Zu (⟨s1_.2.1, s1_.2.2⟩ : Ze) (IntKind.i64.wrap ((IntKind.i64.wrap ((IntKind.i64.wrap (a1 + 1)) + (IntKind.i64.wrap (s1_.1 * (IntKind.i64.wrap (y2.1 + y2.2)))))) + y2.1)) x15.Kids).bind fun y16 => some (.inl ((IntKind.i64.wrap (s1_.1 + 1)), y16.words, y16.next))) (some (.inr (s1_.2.1, s1_.2.2)))
noncomputable def Ks (Z6 : (Ze → Int → Za → Option Ze)) (Zz : (Ze → Int → Za → Option Ze)) (Zu : (Ze → Int → (List Za) → Option Ze)) (Z0 : (Ze → Int → Za → Option Ze)) (a0 : Ze) (a1 : Int) (a2 : Za) : Option Ze :=
 (Za3 a2).bind fun y2 => (cond (decide (0 < (a2.Kids.length : Int))) ((Vb (⟨1, (a2.Kids.length : Int), y2.1, y2.2, 0, 0, 0, false⟩ : Zy)).bind fun y4 => (Y5 a0.words a1).bind fun x5 => some (Qy a0.words a1 y4.1)) (some a0.words)).bind fun (z3 : (List Int)) => (Zs (Jd a1 a2 y2) (0, z3)).bind fun (z13 : (List Int)) => (Zs (Je Zu a1 a2 y2) (0, z13, a0.next)).bind fun (z18 : ((List Int) × Int)) => some (⟨z18.1, z18.2⟩ : Ze)
noncomputable def Zi : Nat → ((Ze → Int → Za → Option Ze) × (Ze → Int → Za → Option Ze) × (Ze → Int → (List Za) → Option Ze) × (Ze → Int → Za → Option Ze))
 | 0 => ((fun _ _ _ => none), (fun _ _ _ => none), (fun _ _ _ => none), (fun _ _ _ => none))
 | k + 1 => (Qb ((Zi k).1) ((Zi k).2.1) ((Zi k).2.2.1) ((Zi k).2.2.2), Xp ((Zi k).1) ((Zi k).2.1) ((Zi k).2.2.1) ((Zi k).2.2.2), J7 ((Zi k).1) ((Zi k).2.1) ((Zi k).2.2.1) ((Zi k).2.2.2), Ks ((Zi k).1) ((Zi k).2.1) ((Zi k).2.2.1) ((Zi k).2.2.2))
noncomputable def Zaa (a0 : Ze) (a1 : Int) (a2 : Za) : Option Ze := lim fun k => (Zi k).1 a0 a1 a2
noncomputable def Up (a0 : Za) (a1 : Int) : Option ((List Int) × Bool) :=
 (cond (a0.Kind == 10) (some true) ((Zkz a0).bind fun y4 => some (cond (a0.Kind == 10) true (!y4)))).bind fun (z2 : Bool) => cond z2 (some (([] : (List Int)), false)) ((Zfo a0).bind fun y7 => (Zfp y7).bind fun y9 => cond (cond (decide (a1 < (IntKind.i64.wrap (1 + y9)))) true (decide (131072 < (IntKind.i64.wrap (1 + y9))))) (some (([] : (List Int)), false)) ((Zgl 8 (IntKind.i64.wrap (1 + y9)) (0 : Int)).bind fun l11 => (Zaa (⟨l11, 1⟩ : Ze) 0 y7).bind fun y13 => some (y13.words, true)))
noncomputable def Vj (a0 : (List Int)) (a1 : (List Int)) (s0_ : Int) : Option (Int ⊕ (Unit ⊕ Unit)) :=
 cond (decide (s0_ < (a0.length : Int))) ((Y5 a0 s0_).bind fun x3 => (Y5 a1 s0_).bind fun x4 => cond (x3 != x4) (some (.inr (.inl ()))) (some (.inl (IntKind.i64.wrap (s0_ + 1))))) (some (.inr (.inr ())))
noncomputable def Vr (a0 : (List Int)) (a1 : (List Int)) : Option Bool :=
 cond ((a0.length : Int) != (a1.length : Int)) (some false) ((Zs (Vj a0 a1) 0).bind fun (z7 : (Unit ⊕ Unit)) => match z7 with | .inl z7 => some false | .inr z7 => some true)
noncomputable def Qs  : Option Bool :=
 (Up (⟨1, ([5] : List Int), ([(⟨8, [], ([(⟨0, [], []⟩ : Za)] : List Za)⟩ : Za)] : List Za)⟩ : Za) 9).bind fun y2 => (cond y2.2 ((Vr y2.1 ([281479271677952, 5, 60129542145, 0] : List Int)).bind fun y6 => some (cond y2.2 y6 false)) (some false)).bind fun (z4 : Bool) => some z4
noncomputable def Qt (a0 : Int) : Option Int :=
 cond (a0 == 0) (some 0) (cond (a0 == 1) (some 1) (cond (a0 == 2) (some 8) (cond (a0 == 3) (some 16) (cond (a0 == 4) (some 32) (cond (a0 == 5) (some 64) (some (-1)))))))
noncomputable def X0 (y2 : Int) (s0_ : (Int × Int)) : Option ((Int × Int) ⊕ Int) :=
 cond (decide (s0_.2 < y2)) (some (.inl ((IntKind.u64.wrap (Int.tdiv s0_.1 2)), (IntKind.i64.wrap (s0_.2 + 1))))) (some (.inr s0_.1))
noncomputable def Kb (a0 : Int) (a1 : Int) : Option Bool :=
 (Qt a0).bind fun y2 => cond (decide (y2 < 0)) (some false) ((Zs (X0 y2) (a1, 0)).bind fun (z4 : Int) => some (z4 == 0))
noncomputable def Kt (Qv : (Za → Int → Option Bool)) (a0 : Za) (a1 : Int) (s0_ : Int) : Option (Int ⊕ (Unit ⊕ Unit)) :=
 cond (decide (s0_ < (a0.Kids.length : Int))) ((Y5 a0.Kids s0_).bind fun x2 => (Qv x2 (IntKind.i64.wrap (a1 - 1))).bind fun y4 => cond (!y4) (some (.inr (.inl ()))) ((cond ((cond (decide (2 ≤ a0.Kind)) (decide (a0.Kind ≤ 7)) false) != (x2.Kind == 10)) (some true) (cond (a0.Kind == 9) (cond (x2.Kind != 1) (some true) (cond (decide (2 ≤ a0.Kind)) (cond (decide (a0.Kind ≤ 7)) ((Y5 x2.Words 0).bind fun x14 => (Kb (IntKind.i64.wrap (a0.Kind - 2)) x14).bind fun y15 => some (cond (cond ((cond (decide (2 ≤ a0.Kind)) (decide (a0.Kind ≤ 7)) false) != (x2.Kind == 10)) true (cond (a0.Kind == 9) (x2.Kind != 1) false)) true (cond (cond (decide (2 ≤ a0.Kind)) (decide (a0.Kind ≤ 7)) false) (!y15) false))) (some (cond (cond ((cond (decide (2 ≤ a0.Kind)) (decide (a0.Kind ≤ 7)) false) != (x2.Kind == 10)) true (cond (a0.Kind == 9) (x2.Kind != 1) false)) true false))) (some (cond (cond ((cond (decide (2 ≤ a0.Kind)) (decide (a0.Kind ≤ 7)) false) != (x2.Kind == 10)) true (cond (a0.Kind == 9) (x2.Kind != 1) false)) true false)))) (cond (decide (2 ≤ a0.Kind)) (cond (decide (a0.Kind ≤ 7)) ((Y5 x2.Words 0).bind fun x16 => (Kb (IntKind.i64.wrap (a0.Kind - 2)) x16).bind fun y17 => some (cond (cond ((cond (decide (2 ≤ a0.Kind)) (decide (a0.Kind ≤ 7)) false) != (x2.Kind == 10)) true (cond (a0.Kind == 9) (x2.Kind != 1) false)) true (cond (cond (decide (2 ≤ a0.Kind)) (decide (a0.Kind ≤ 7)) false) (!y17) false))) (some (cond (cond ((cond (decide (2 ≤ a0.Kind)) (decide (a0.Kind ≤ 7)) false) != (x2.Kind == 10)) true (cond (a0.Kind == 9) (x2.Kind != 1) false)) true false))) (some (cond (cond ((cond (decide (2 ≤ a0.Kind)) (decide (a0.Kind ≤ 7)) false) != (x2.Kind == 10)) true (cond (a0.Kind == 9) (x2.Kind != 1) false)) true false))))).bind fun (z9 : Bool) => cond z9 (some (.inr (.inl ()))) (some (.inl (IntKind.i64.wrap (s0_ + 1)))))) (some (.inr (.inr ())))
noncomputable def Uj (Qv : (Za → Int → Option Bool)) (a0 : Za) (a1 : Int) : Option Bool :=
 cond (a0.Kind == 0) (some (cond ((a0.Words.length : Int) == 0) ((a0.Kids.length : Int) == 0) false)) (cond (a0.Kind == 10) (some (cond ((a0.Words.length : Int) == 1) ((a0.Kids.length : Int) == 0) false)) (cond (cond (cond (cond (cond (cond (decide (a0.Kind < 0)) true (decide (10 < a0.Kind))) true (a1 == 0)) true (decide (65536 ≤ (a0.Words.length : Int)))) true (cond (a0.Kind == 1) (decide (65536 ≤ (a0.Kids.length : Int))) false)) true (decide (1048576 ≤ (a0.Kids.length : Int)))) (some false) (cond (cond (decide (1 < a0.Kind)) (decide (0 < (a0.Words.length : Int))) false) (some false) ((Zs (Kt Qv a0 a1) 0).bind fun (z28 : (Unit ⊕ Unit)) => match z28 with | .inl z28 => some false | .inr z28 => some true))))
noncomputable def Q6 : Nat → (Za → Int → Option Bool)
 | 0 => (fun _ _ => none)
 | k + 1 => Uj ((Q6 k))
noncomputable def Ur (a0 : Za) (a1 : Int) : Option Bool := lim fun k => (Q6 k) a0 a1
noncomputable def Vk (a0 : (List Int)) (s0_ : Int) : Option (Int ⊕ Int) :=
 (cond (decide (0 < s0_)) ((Y5 a0 (IntKind.i64.wrap (s0_ - 1))).bind fun x4 => some (cond (decide (0 < s0_)) (x4 == 0) false)) (some false)).bind fun (z2 : Bool) => cond z2 (some (.inl (IntKind.i64.wrap (s0_ - 1)))) (some (.inr s0_))
noncomputable def Gh (a0 : (List Int)) : Option (List Int) :=
 (Zs (Vk a0) (a0.length : Int)).bind fun (z7 : Int) => (Zif a0 0 z7).bind fun l10 => (Zeq 8 ([] : List Int) l10).bind fun l11 => some l11
noncomputable def Qn (Ja : (Za → Option Za)) (a0 : Za) (s0_ : (Int × Int × (List Za))) : Option ((Int × Int × (List Za)) ⊕ (Int × (List Za))) :=
 cond (decide (s0_.2.1 < (a0.Kids.length : Int))) (((Y5 a0.Kids s0_.2.1).bind fun x4 => (Ja x4).bind fun y5 => (Zeq 56 s0_.2.2 ([y5] : List Za)).bind fun l7 => cond (y5.Kind != 0) (some ((IntKind.i64.wrap (s0_.2.1 + 1)), l7)) (some (s0_.1, l7))).bind fun (z1 : (Int × (List Za))) => some (.inl (z1.1, (IntKind.i64.wrap (s0_.2.1 + 1)), z1.2))) (some (.inr (s0_.1, s0_.2.2)))
noncomputable def U9 (Ja : (Za → Option Za)) (a0 : Za) : Option Za :=
 cond (a0.Kind == 0) (some (⟨0, [], []⟩ : Za)) ((Zs (Qn Ja a0) (0, 0, ([] : List Za))).bind fun (z10 : (Int × (List Za))) => cond (a0.Kind == 1) ((Gh a0.Words).bind fun y14 => (Zif z10.2 0 z10.1).bind fun l15 => some (⟨1, y14, l15⟩ : Za)) ((Zeq 8 ([] : List Int) a0.Words).bind fun l17 => some (⟨a0.Kind, l17, z10.2⟩ : Za)))
noncomputable def Xj : Nat → (Za → Option Za)
 | 0 => (fun _ => none)
 | k + 1 => U9 ((Xj k))
noncomputable def Zbv (a0 : Za) : Option Za := lim fun k => (Xj k) a0
noncomputable def Vq (a0 : Int) (a1 : Int) : Option Int :=
 (Qt a0).bind fun y2 => cond (cond (cond (decide (y2 < 1)) true (decide (a1 < 0))) true (decide (1099511627776 < a1))) (some 0) ((Qt a0).bind fun y5 => (Xi (y5 ≠ 0)).bind fun u6 => (Xi ((IntKind.i64.wrap (Int.tdiv 64 y5)) ≠ 0)).bind fun u8 => cond (decide (0 < (Int.tmod a1 (IntKind.i64.wrap (Int.tdiv 64 y5))))) ((Xi ((IntKind.i64.wrap (Int.tdiv 64 y5)) ≠ 0)).bind fun u10 => some (IntKind.i64.wrap ((IntKind.i64.wrap (Int.tdiv a1 (IntKind.i64.wrap (Int.tdiv 64 y5)))) + 1))) ((Xi ((IntKind.i64.wrap (Int.tdiv 64 y5)) ≠ 0)).bind fun u12 => some (IntKind.i64.wrap (Int.tdiv a1 (IntKind.i64.wrap (Int.tdiv 64 y5))))))
noncomputable def Kv (a0 : Za) (s0_ : (Int × Int × Int)) : Option ((Int × Int × Int) ⊕ (Int × Int)) :=
 cond (decide (s0_.2.2 < (a0.Kids.length : Int))) ((((Y5 a0.Kids s0_.2.2).bind fun x5 => cond (decide (s0_.1 < (x5.Words.length : Int))) ((Y5 a0.Kids s0_.2.2).bind fun x7 => some (x7.Words.length : Int)) (some s0_.1)).bind fun (z2 : Int) => (Y5 a0.Kids s0_.2.2).bind fun x12 => cond (decide (s0_.2.1 < (x12.Kids.length : Int))) ((Y5 a0.Kids s0_.2.2).bind fun x14 => some (z2, (x14.Kids.length : Int))) (some (z2, s0_.2.1))).bind fun (z1 : (Int × Int)) => some (.inl (z1.1, z1.2, (IntKind.i64.wrap (s0_.2.2 + 1))))) (some (.inr (s0_.1, s0_.2.1)))
noncomputable def Jp (a0 : Za) : Option (Int × Int) :=
 (Zs (Kv a0) (0, 0, 0)).bind fun (z18 : (Int × Int)) => some (z18.1, z18.2)
noncomputable def Vi (Y2 : (Za → Option Int)) (a0 : Za) (s0_ : (Int × Int)) (s1_ : (Int × Int)) : Option ((Int × Int) ⊕ Int) :=
 (Y5 a0.Kids s0_.2).bind fun x14 => cond (decide (s1_.2 < (x14.Kids.length : Int))) ((Y5 a0.Kids s0_.2).bind fun x16 => (Y5 x16.Kids s1_.2).bind fun x18 => (Y2 x18).bind fun y19 => some (.inl ((IntKind.i64.wrap (s1_.1 + y19)), (IntKind.i64.wrap (s1_.2 + 1))))) (some (.inr s1_.1))
noncomputable def Vh (Y2 : (Za → Option Int)) (a0 : Za) (s0_ : (Int × Int)) : Option ((Int × Int) ⊕ Int) :=
 cond (decide (s0_.2 < (a0.Kids.length : Int))) ((Zs (Vi Y2 a0 s0_) (s0_.1, 0)).bind fun (z21 : Int) => some (.inl (z21, (IntKind.i64.wrap (s0_.2 + 1))))) (some (.inr s0_.1))
noncomputable def Jr (Y2 : (Za → Option Int)) (a0 : Za) (s2_ : (Int × Int)) : Option ((Int × Int) ⊕ Int) :=
 cond (decide (s2_.2 < (a0.Kids.length : Int))) ((Y5 a0.Kids s2_.2).bind fun x28 => (Y2 x28).bind fun y29 => some (.inl ((IntKind.i64.wrap (s2_.1 + y29)), (IntKind.i64.wrap (s2_.2 + 1))))) (some (.inr s2_.1))
noncomputable def Gb (Y2 : (Za → Option Int)) (a0 : Za) : Option Int :=
 (cond (a0.Kind == 1) (some (.inl (IntKind.i64.wrap ((a0.Words.length : Int) + (a0.Kids.length : Int))))) (cond (a0.Kind == 8) (some (.inl (a0.Kids.length : Int))) ((cond (a0.Kind == 2) (some (a0.Kind == 2)) (cond (a0.Kind == 3) (some (a0.Kind == 3)) (cond (a0.Kind == 4) (some (a0.Kind == 4)) (cond (a0.Kind == 5) (some (a0.Kind == 5)) (cond (a0.Kind == 6) (some (a0.Kind == 6)) (some (a0.Kind == 7))))))).bind fun (z2 : Bool) => cond z2 ((Vq (IntKind.i64.wrap (a0.Kind - 2)) (a0.Kids.length : Int)).bind fun y9 => some (.inr y9)) (cond (a0.Kind == 9) ((Jp a0).bind fun y11 => (Zs (Vh Y2 a0) ((IntKind.i64.wrap (1 + (IntKind.i64.wrap ((a0.Kids.length : Int) * (IntKind.i64.wrap (y11.1 + y11.2)))))), 0)).bind fun (z23 : Int) => some (.inr z23)) (some (.inl 0)))))).bind fun (z1 : (Int ⊕ Int)) => match z1 with | .inl z1 => (Zs (Jr Y2 a0) (z1, 0)).bind fun (z31 : Int) => some z31 | .inr z1 => some z1
noncomputable def Xa : Nat → (Za → Option Int)
 | 0 => (fun _ => none)
 | k + 1 => Gb ((Xa k))
noncomputable def Vs (a0 : Za) : Option Int := lim fun k => (Xa k) a0
noncomputable def Jw (a0 : Int) (a1 : Int) (a2 : Int) (a3 : Int) : Option Int :=
 (cond (decide ((IntKind.i64.wrap ((IntKind.i64.wrap (a1 - a0)) - 1)) < 0)) (some (IntKind.i64.wrap ((IntKind.i64.wrap ((IntKind.i64.wrap (a1 - a0)) - 1)) + 1073741824))) (some (IntKind.i64.wrap ((IntKind.i64.wrap (a1 - a0)) - 1)))).bind fun (z1 : Int) => some (IntKind.u64.wrap ((IntKind.u64.wrap (IntKind.i64.wrap ((IntKind.i64.wrap (4 * z1)) + a2))) + (IntKind.u64.wrap (a3 * 4294967296))))
noncomputable def Zab (a1 : Int) (s0_ : (Int × (List Int))) : Option ((Int × (List Int)) ⊕ (List Int)) :=
 cond (decide (s0_.1 < a1)) ((Zeq 8 s0_.2 ([0] : List Int)).bind fun l1 => some (.inl ((IntKind.i64.wrap (s0_.1 + 1)), l1))) (some (.inr s0_.2))
noncomputable def Zak (a0 : (List Int)) (a1 : Int) : Option (List Int) :=
 (Zs (Zab a1) (0, a0)).bind fun (z3 : (List Int)) => some z3
noncomputable def U0 (a0 : Za) (s0_ : (Int × (List Int))) : Option ((Int × (List Int)) ⊕ (List Int)) :=
 cond (decide (s0_.1 < (a0.Kids.length : Int))) ((Y5 a0.Kids s0_.1).bind fun x1 => (Y5 x1.Words 0).bind fun x3 => (Zeq 8 s0_.2 ([x3] : List Int)).bind fun l4 => some (.inl ((IntKind.i64.wrap (s0_.1 + 1)), l4))) (some (.inr s0_.2))
noncomputable def Zdo (a0 : Za) : Option (List Int) :=
 (Zs (U0 a0) (0, ([] : List Int))).bind fun (z6 : (List Int)) => some z6
noncomputable def Zcw (y2 : Int) (s0_ : (Int × (List Int))) (s1_ : (Int × Int)) : Option ((Int × Int) ⊕ Int) :=
 cond (decide (s1_.2 < (Int.tmod (IntKind.i64.wrap (s0_.1 * y2)) 64))) (some (.inl ((IntKind.u64.wrap (s1_.1 * 2)), (IntKind.i64.wrap (s1_.2 + 1))))) (some (.inr s1_.1))
noncomputable def Xe (a0 : Int) (a1 : (List Int)) (y2 : Int) (s0_ : (Int × (List Int))) : Option ((Int × (List Int)) ⊕ (Unit ⊕ (List Int))) :=
 cond (decide (s0_.1 < (a1.length : Int))) (((Y5 a1 s0_.1).bind fun x9 => (Kb a0 x9).bind fun y11 => cond (!y11) (some (.inr ())) ((Zs (Zcw y2 s0_) (x9, 0)).bind fun (z13 : Int) => cond (decide (0 < y2)) ((Y5 s0_.2 (IntKind.i64.wrap (Int.tdiv (IntKind.i64.wrap (s0_.1 * y2)) 64))).bind fun x14 => some (.inl (Qy s0_.2 (IntKind.i64.wrap (Int.tdiv (IntKind.i64.wrap (s0_.1 * y2)) 64)) (IntKind.u64.wrap (x14 + z13))))) (some (.inl s0_.2)))).bind fun (z7 : ((List Int) ⊕ Unit)) => match z7 with | .inl z7 => some (.inl ((IntKind.i64.wrap (s0_.1 + 1)), z7)) | .inr z7 => some (.inr (.inl ()))) (some (.inr (.inr s0_.2)))
noncomputable def Ze0 (a0 : Int) (a1 : (List Int)) : Option ((List Int) × Bool) :=
 (Qt a0).bind fun y2 => cond (decide (y2 < 0)) (some (([] : (List Int)), false)) ((Vq a0 (a1.length : Int)).bind fun y5 => (Zgl 8 y5 (0 : Int)).bind fun l6 => (Zs (Xe a0 a1 y2) (0, l6)).bind fun (z20 : (Unit ⊕ (List Int))) => match z20 with | .inl z20 => some (([] : (List Int)), false) | .inr z20 => some (z20, true))
noncomputable def Gw (Xu : ((List Int) → Int → Za → Option (List Int))) (a2 : Za) (z1 : Int) (s0_ : (Int × (List Int))) : Option ((Int × (List Int)) ⊕ (List Int)) :=
 cond (decide (s0_.1 < (a2.Kids.length : Int))) ((Y5 a2.Kids s0_.1).bind fun x13 => (Xu s0_.2 (IntKind.i64.wrap ((IntKind.i64.wrap (z1 + (a2.Words.length : Int))) + s0_.1)) x13).bind fun y14 => some (.inl ((IntKind.i64.wrap (s0_.1 + 1)), y14))) (some (.inr s0_.2))
noncomputable def Gx (Xu : ((List Int) → Int → Za → Option (List Int))) (a0 : (List Int)) (a2 : Za) (s1_ : (Int × (List Int))) : Option ((Int × (List Int)) ⊕ (List Int)) :=
 cond (decide (s1_.1 < (a2.Kids.length : Int))) ((Y5 a2.Kids s1_.1).bind fun x25 => (Xu s1_.2 (IntKind.i64.wrap ((a0.length : Int) + s1_.1)) x25).bind fun y26 => some (.inl ((IntKind.i64.wrap (s1_.1 + 1)), y26))) (some (.inr s1_.2))
noncomputable def Gy (a2 : Za) (y30 : (Int × Int)) (s2_ : (Int × (List Int))) : Option ((Int × (List Int)) ⊕ (List Int)) :=
 cond (decide (s2_.1 < (a2.Kids.length : Int))) ((Y5 a2.Kids s2_.1).bind fun x42 => (Zeq 8 s2_.2 x42.Words).bind fun l44 => (Y5 a2.Kids s2_.1).bind fun x45 => (Zak l44 (IntKind.i64.wrap ((IntKind.i64.wrap (y30.1 + y30.2)) - (x45.Words.length : Int)))).bind fun y47 => some (.inl ((IntKind.i64.wrap (s2_.1 + 1)), y47))) (some (.inr s2_.2))
noncomputable def G0 (Xu : ((List Int) → Int → Za → Option (List Int))) (a0 : (List Int)) (a2 : Za) (y30 : (Int × Int)) (s3_ : (Int × (List Int))) (s4_ : (Int × (List Int))) : Option ((Int × (List Int)) ⊕ (List Int)) :=
 (Y5 a2.Kids s3_.1).bind fun x52 => cond (decide (s4_.1 < (x52.Kids.length : Int))) ((Y5 a2.Kids s3_.1).bind fun x54 => (Y5 x54.Kids s4_.1).bind fun x56 => (Xu s4_.2 (IntKind.i64.wrap ((IntKind.i64.wrap ((IntKind.i64.wrap ((IntKind.i64.wrap ((a0.length : Int) + 1)) + (IntKind.i64.wrap (s3_.1 * (IntKind.i64.wrap (y30.1 + y30.2)))))) + y30.1)) + s4_.1)) x56).bind fun y57 => some (.inl ((IntKind.i64.wrap (s4_.1 + 1)), y57))) (some (.inr s4_.2))
noncomputable def Gz (Xu : ((List Int) → Int → Za → Option (List Int))) (a0 : (List Int)) (a2 : Za) (y30 : (Int × Int)) (s3_ : (Int × (List Int))) : Option ((Int × (List Int)) ⊕ (List Int)) :=
 cond (decide (s3_.1 < (a2.Kids.length : Int))) ((Zs (G0 Xu a0 a2 y30 s3_) (0, s3_.2)).bind fun (z59 : (List Int)) => some (.inl ((IntKind.i64.wrap (s3_.1 + 1)), z59))) (some (.inr s3_.2))
noncomputable def Qa (Xu : ((List Int) → Int → Za → Option (List Int))) (a0 : (List Int)) (a1 : Int) (a2 : Za) : Option (List Int) :=
 cond (a2.Kind == 0) (some a0) (cond (a2.Kind == 1) ((cond ((IntKind.i64.wrap ((a2.Words.length : Int) + (a2.Kids.length : Int))) == 0) (some a1) (some (a0.length : Int))).bind fun (z1 : Int) => (Jw a1 z1 0 (IntKind.u64.wrap ((IntKind.u64.wrap (a2.Words.length : Int)) + (IntKind.u64.wrap (65536 * (IntKind.u64.wrap (a2.Kids.length : Int))))))).bind fun y6 => (Y5 a0 a1).bind fun x7 => (Zeq 8 (Qy a0 a1 y6) a2.Words).bind fun l10 => (Zak l10 (a2.Kids.length : Int)).bind fun y12 => (Zs (Gw Xu a2 z1) (0, y12)).bind fun (z16 : (List Int)) => some z16) (cond (a2.Kind == 8) ((Jw a1 (a0.length : Int) 1 (IntKind.u64.wrap (6 + (IntKind.u64.wrap (8 * (IntKind.u64.wrap (a2.Kids.length : Int))))))).bind fun y20 => (Y5 a0 a1).bind fun x21 => (Zak (Qy a0 a1 y20) (a2.Kids.length : Int)).bind fun y24 => (Zs (Gx Xu a0 a2) (0, y24)).bind fun (z28 : (List Int)) => some z28) (cond (a2.Kind == 9) ((Jp a2).bind fun y30 => (Jw a1 (a0.length : Int) 1 (IntKind.u64.wrap (7 + (IntKind.u64.wrap (8 * (IntKind.u64.wrap (IntKind.i64.wrap ((a2.Kids.length : Int) * (IntKind.i64.wrap (y30.1 + y30.2)))))))))).bind fun y34 => (Y5 a0 a1).bind fun x35 => (Zeq 8 (Qy a0 a1 y34) ([(IntKind.u64.wrap ((IntKind.u64.wrap (IntKind.i64.wrap (4 * (a2.Kids.length : Int)))) + (IntKind.u64.wrap (4294967296 * (IntKind.u64.wrap ((IntKind.u64.wrap y30.1) + (IntKind.u64.wrap (65536 * (IntKind.u64.wrap y30.2)))))))))] : List Int)).bind fun l38 => (Zs (Gy a2 y30) (0, l38)).bind fun (z49 : (List Int)) => (Zs (Gz Xu a0 a2 y30) (0, z49)).bind fun (z61 : (List Int)) => some z61) ((Zdo a2).bind fun y64 => (Ze0 (IntKind.i64.wrap (a2.Kind - 2)) y64).bind fun y65 => (Jw a1 (a0.length : Int) 1 (IntKind.u64.wrap ((IntKind.u64.wrap (IntKind.i64.wrap (a2.Kind - 2))) + (IntKind.u64.wrap (8 * (IntKind.u64.wrap (a2.Kids.length : Int))))))).bind fun y69 => (Y5 a0 a1).bind fun x70 => (Zeq 8 (Qy a0 a1 y69) y65.1).bind fun l73 => some l73))))
noncomputable def Yh : Nat → ((List Int) → Int → Za → Option (List Int))
 | 0 => (fun _ _ _ => none)
 | k + 1 => Qa ((Yh k))
noncomputable def Zju (a0 : (List Int)) (a1 : Int) (a2 : Za) : Option (List Int) := lim fun k => (Yh k) a0 a1 a2
noncomputable def Zgk (a0 : Za) (a1 : Int) : Option ((List Int) × Bool) :=
 (Ur a0 64).bind fun y2 => cond (cond (!y2) true (a0.Kind == 10)) (some (([] : (List Int)), false)) ((Zbv a0).bind fun y4 => ((Vs y4).bind fun y10 => cond (decide (a1 ≤ y10)) (some true) ((Vs y4).bind fun y11 => some (cond (decide (a1 ≤ y10)) true (decide (131072 ≤ y11))))).bind fun (z7 : Bool) => cond z7 (some (([] : (List Int)), false)) ((Zju ([0] : List Int) 0 y4).bind fun y14 => some (y14, true)))
noncomputable def J8 (Qe : (Za → Option Za)) (a0 : Za) (y2 : (Int × Int)) (s0_ : (Int × (List Za))) : Option ((Int × (List Za)) ⊕ (List Za)) :=
 cond (decide (s0_.1 < (a0.Kids.length : Int))) ((Y5 a0.Kids s0_.1).bind fun x5 => (Qe x5).bind fun y6 => (cond (a0.Kind == 9) ((Zeq 8 ([] : List Int) y6.Words).bind fun l11 => (Xi (0 ≤ (IntKind.i64.wrap (y2.1 - (y6.Words.length : Int))))).bind fun u12 => (Zeq 8 l11 (List.replicate (Int.toNat (IntKind.i64.wrap (y2.1 - (y6.Words.length : Int)))) (0 : Int))).bind fun l13 => (Zeq 56 ([] : List Za) y6.Kids).bind fun l14 => (Xi (0 ≤ (IntKind.i64.wrap (y2.2 - (y6.Kids.length : Int))))).bind fun u15 => (Zeq 56 l14 (List.replicate (Int.toNat (IntKind.i64.wrap (y2.2 - (y6.Kids.length : Int)))) (⟨(0 : Int), [], []⟩ : Za))).bind fun l16 => some (l13, l16)) (some (y6.Words, y6.Kids))).bind fun (z7 : ((List Int) × (List Za))) => (Zeq 56 s0_.2 ([(⟨y6.Kind, z7.1, z7.2⟩ : Za)] : List Za)).bind fun l18 => some (.inl ((IntKind.i64.wrap (s0_.1 + 1)), l18))) (some (.inr s0_.2))
noncomputable def Vz (Qe : (Za → Option Za)) (a0 : Za) : Option Za :=
 (Jp a0).bind fun y2 => (Zs (J8 Qe a0 y2) (0, ([] : List Za))).bind fun (z20 : (List Za)) => some (⟨a0.Kind, a0.Words, z20⟩ : Za)
noncomputable def Qr : Nat → (Za → Option Za)
 | 0 => (fun _ => none)
 | k + 1 => Vz ((Qr k))
noncomputable def Zcv (a0 : Za) : Option Za := lim fun k => (Qr k) a0
noncomputable def X4 (Qf : (Za → Option Int)) (a0 : Za) (s0_ : (Int × Int)) : Option ((Int × Int) ⊕ Int) :=
 cond (decide (s0_.2 < (a0.Kids.length : Int))) (((Y5 a0.Kids s0_.2).bind fun x6 => (Qf x6).bind fun y7 => cond (cond (a0.Kind == 1) true (a0.Kind == 8)) (some (IntKind.i64.wrap ((IntKind.i64.wrap (s0_.1 + y7)) + 1))) (some (IntKind.i64.wrap (s0_.1 + y7)))).bind fun (z3 : Int) => some (.inl (z3, (IntKind.i64.wrap (s0_.2 + 1))))) (some (.inr s0_.1))
noncomputable def V0 (Qf : (Za → Option Int)) (a0 : Za) : Option Int :=
 cond (a0.Kind == 0) (some 0) ((cond (a0.Kind == 1) (some (IntKind.i64.wrap (1 + (a0.Words.length : Int)))) (some 1)).bind fun (z1 : Int) => (Zs (X4 Qf a0) (z1, 0)).bind fun (z10 : Int) => some z10)
noncomputable def Xz : Nat → (Za → Option Int)
 | 0 => (fun _ => none)
 | k + 1 => V0 ((Xz k))
noncomputable def Zcx (a0 : Za) : Option Int := lim fun k => (Xz k) a0
noncomputable def Xg (a0 : List Int) : Option (List Int) :=
 Zeq 8 ([] : List Int) a0
noncomputable def Ue (a0 : (List (List Int))) (s0_ : (Int × (List (List Int)))) : Option ((Int × (List (List Int))) ⊕ (List (List Int))) :=
 cond (decide (s0_.1 < (a0.length : Int))) ((Y5 a0 s0_.1).bind fun x4 => (Xg x4).bind fun y5 => (Y5 s0_.2 s0_.1).bind fun x6 => some (.inl ((IntKind.i64.wrap (s0_.1 + 1)), (Qy s0_.2 s0_.1 y5)))) (some (.inr s0_.2))
noncomputable def Zda (a0 : (List (List Int))) : Option (List (List Int)) :=
 (Zgl 24 (a0.length : Int) ([] : (List Int))).bind fun l2 => (Zs (Ue a0) (0, l2)).bind fun (z9 : (List (List Int))) => some z9
structure Zj where
 segments : (List (List Int))
 size : Int
 left : Int
noncomputable def Zez (a0 : (List (List Int))) : Option (Option Zj) :=
 (Zda a0).bind fun y2 => some (some (⟨y2, 0, 0⟩ : Zj))
noncomputable def U5 (a0 : Int) (a1 : Int) : Option Int :=
 some (if a1 < (if a0 < 0 then 0 else a0) then a1 else (if a0 < 0 then 0 else a0))
structure Ye where
 Depth : Int
 Weight : Int
 MaxD : Int
 MaxOut : Int
noncomputable def Zeg (a0 : Ye) : Option Ye :=
 (U5 a0.Depth 64).bind fun y5 => (U5 a0.Weight 65536).bind fun y6 => (U5 a0.MaxD 4096).bind fun y7 => (U5 a0.MaxOut 131072).bind fun y8 => some (⟨y5, y6, y7, y8⟩ : Ye)
noncomputable def Zbu (a0 : (Option Zj)) : Option Int :=
 cond (Option.isNone a0) (some 0) ((a0).bind fun x4 => some (x4.segments.length : Int))
noncomputable def Kk (a0 : (Option Zj)) (a1 : Int) : Option Bool :=
 (cond (decide (0 ≤ a1)) ((Zbu a0).bind fun y4 => some (cond (decide (0 ≤ a1)) (decide (a1 < y4)) false)) (some false)).bind fun (z2 : Bool) => some z2
noncomputable def K4 (a0 : (Option Zj)) (a1 : Int) : Option Int :=
 (Kk a0 a1).bind fun y2 => cond (!y2) (some 0) ((a0).bind fun x5 => (Y5 x5.segments a1).bind fun x6 => some (x6.length : Int))
noncomputable def Ka (a0 : (Option Zj)) (a1 : Int) (a2 : Int) (a3 : Int) : Option Bool :=
 ((Kk a0 a1).bind fun y8 => cond y8 (cond (decide (0 ≤ a2)) (cond (decide (0 ≤ a3)) ((K4 a0 a1).bind fun y9 => cond (decide (a3 ≤ y9)) ((K4 a0 a1).bind fun y10 => some (cond (cond (cond (cond y8 (decide (0 ≤ a2)) false) (decide (0 ≤ a3)) false) (decide (a3 ≤ y9)) false) (decide (a2 ≤ (IntKind.i64.wrap (y10 - a3)))) false)) (some false)) (some false)) (some false)) (some false)).bind fun (z4 : Bool) => some z4
noncomputable def Qi (a0 : (Option Zj)) (a1 : Int) (a2 : Int) : Option (Int × Bool) :=
 (Ka a0 a1 a2 1).bind fun y2 => cond (!y2) (some (0, false)) ((a0).bind fun x6 => (Y5 x6.segments a1).bind fun x7 => (Y5 x7 a2).bind fun x8 => some (x8, true))
noncomputable def Uo (a0 : (Option Zj)) (a1 : Int) (a2 : Int) (a3 : Int) : Option ((List Int) × Bool) :=
 (Ka a0 a1 a2 a3).bind fun y2 => cond (!y2) (some (([] : (List Int)), false)) ((a0).bind fun x7 => (Y5 x7.segments a1).bind fun x8 => (Zif x8 a2 (IntKind.i64.wrap (a2 + a3))).bind fun l9 => (Xg l9).bind fun y10 => some (y10, true))
structure Xf where
 P : Zy
 Segment : Int
 At : Int
noncomputable def Za0 (a0 : (Option Zj)) (a1 : Zy) (a2 : Int) (a3 : Int) : Option (Xf × Int) :=
 cond (a1.Kind == 4) (some ((⟨⟨0, 0, 0, 0, 0, 0, 0, false⟩, 0, 0⟩ : Xf), 9)) ((Xq a1).bind fun y2 => cond (!y2.2) (some ((⟨⟨0, 0, 0, 0, 0, 0, 0, false⟩, 0, 0⟩ : Xf), 8)) ((Ka a0 a2 a3 y2.1).bind fun y4 => cond (!y4) (some ((⟨⟨0, 0, 0, 0, 0, 0, 0, false⟩, 0, 0⟩ : Xf), 7)) (some ((⟨⟨a1.Kind, 0, a1.Data, a1.Ptrs, a1.Code, a1.Count, a1.Segment, a1.Double⟩, a2, a3⟩ : Xf), 0))))
noncomputable def Zed (a0 : (Option Zj)) (a1 : Int) (a2 : Int) : Option (Xf × Int) :=
 (Uo a0 a1 a2 2).bind fun y2 => cond (!y2.2) (some ((⟨⟨0, 0, 0, 0, 0, 0, 0, false⟩, 0, 0⟩ : Xf), 7)) ((Y5 y2.1 0).bind fun x3 => (Kc x3).bind fun y4 => (Y5 y2.1 1).bind fun x5 => (Kc x5).bind fun y6 => cond (cond (y4.Kind != 3) true y4.Double) (some ((⟨⟨0, 0, 0, 0, 0, 0, 0, false⟩, 0, 0⟩ : Xf), 8)) (cond (cond (y6.Kind != 4) (y6.Off != 0) false) (some ((⟨⟨0, 0, 0, 0, 0, 0, 0, false⟩, 0, 0⟩ : Xf), 8)) ((Za0 a0 y6 y4.Segment y4.Off).bind fun y8 => some (y8.1, y8.2))))
noncomputable def Zee (a0 : (Option Zj)) (a1 : Int) (a2 : Int) : Option (Xf × Int) :=
 (Qi a0 a1 a2).bind fun y2 => cond (!y2.2) (some ((⟨⟨0, 0, 0, 0, 0, 0, 0, false⟩, 0, 0⟩ : Xf), 7)) ((Kc y2.1).bind fun y4 => (Za0 a0 y4 a1 (IntKind.i64.wrap ((IntKind.i64.wrap (a2 + 1)) + y4.Off))).bind fun y6 => some (y6.1, y6.2))
noncomputable def Zec (a0 : (Option Zj)) (a1 : Int) (a2 : Int) : Option (Xf × Int) :=
 (Qi a0 a1 a2).bind fun y2 => cond (!y2.2) (some ((⟨⟨0, 0, 0, 0, 0, 0, 0, false⟩, 0, 0⟩ : Xf), 7)) ((Kc y2.1).bind fun y4 => cond (y4.Kind == 0) (some ((⟨⟨0, 0, 0, 0, 0, 0, 0, false⟩, 0, 0⟩ : Xf), 0)) (cond (cond (y4.Kind == 3) y4.Double false) ((Zed a0 y4.Segment y4.Off).bind fun y6 => some (y6.1, y6.2)) (cond (y4.Kind == 3) ((Zee a0 y4.Segment y4.Off).bind fun y8 => some (y8.1, y8.2)) ((Za0 a0 y4 a1 (IntKind.i64.wrap ((IntKind.i64.wrap (a2 + 1)) + y4.Off))).bind fun y10 => some (y10.1, y10.2)))))
structure Zb where
 a : (Option Zj)
 kind : Int
 segment : Int
 at_ : Int
 words : Int
 ptrs : Int
 count : Int
 code : Int
 index : Int
noncomputable def Za2 (a0 : Zb) : Option (Zb × Int) :=
 (Qi a0.a a0.segment a0.at_).bind fun y2 => (Kc y2.1).bind fun y4 => cond (cond (cond (cond (y4.Kind != 0) (y4.Kind != 1) false) true (decide (y4.Off < 0))) true (decide (a0.count < (IntKind.i64.wrap (y4.Off * (IntKind.i64.wrap (y4.Data + y4.Ptrs))))))) (some ((⟨(none : (Option Zj)), 0, 0, 0, 0, 0, 0, 0, 0⟩ : Zb), 8)) (some ((⟨a0.a, a0.kind, a0.segment, a0.at_, y4.Data, y4.Ptrs, y4.Off, a0.code, a0.index⟩ : Zb), 0))
noncomputable def Zb7 (a0 : (Option Zj)) (a1 : Int) (a2 : Int) : Option (Zb × Int) :=
 (Zec a0 a1 a2).bind fun y2 => cond (cond (y2.2 != 0) true (y2.1.P.Kind == 0)) (some ((⟨(none : (Option Zj)), 0, 0, 0, 0, 0, 0, 0, 0⟩ : Zb), y2.2)) (cond (y2.1.P.Kind == 1) (some ((⟨a0, 1, y2.1.Segment, y2.1.At, y2.1.P.Data, y2.1.P.Ptrs, 0, 0, 0⟩ : Zb), 0)) (cond (y2.1.P.Code == 7) ((Za2 (⟨a0, (IntKind.i64.wrap (y2.1.P.Code + 2)), y2.1.Segment, y2.1.At, 0, 0, y2.1.P.Count, 0, 0⟩ : Zb)).bind fun y4 => some (y4.1, y4.2)) (some ((⟨a0, (IntKind.i64.wrap (y2.1.P.Code + 2)), y2.1.Segment, y2.1.At, 0, 0, y2.1.P.Count, 0, 0⟩ : Zb), 0))))
noncomputable def Zbo (a0 : (Option Zj)) : Option (Zb × Int) :=
 (Zb7 a0 0 0).bind fun y2 => some (y2.1, y2.2)
noncomputable def Yl (a0 : Zb) : Option Int :=
 some a0.kind
noncomputable def Yt (a0 : Zb) : Option Int :=
 cond (a0.kind == 1) (some a0.ptrs) (some a0.count)
noncomputable def Zcb (a0 : Zb) : Option Int :=
 (Yl a0).bind fun y2 => cond (y2 == 0) (some 0) (((Yl a0).bind fun y8 => cond (y8 == 9) ((Yt a0).bind fun y9 => some (cond (y8 == 9) (decide (0 < y9)) false)) (some false)).bind fun (z5 : Bool) => cond z5 (some 2) (some 1))
noncomputable def Qu (a0 : Zb) : Option Int :=
 cond (a0.kind == 1) (some a0.words) (cond (a0.kind == 10) (some 1) (some 0))
noncomputable def Za1 (a0 : Zb) : Option (Int × Int) :=
 cond (a0.kind != 9) (some (0, 0)) (some (a0.words, a0.ptrs))
noncomputable def Zan (a0 : Zb) : Option Int :=
 (Yl a0).bind fun y2 => cond (y2 == 0) (some 0) (cond (y2 == 1) ((Qu a0).bind fun y5 => (Yt a0).bind fun y6 => some (IntKind.i64.wrap ((IntKind.i64.wrap (1 + y5)) + y6))) (cond (y2 == 9) ((Za1 a0).bind fun y8 => (Yt a0).bind fun y10 => some (IntKind.i64.wrap (1 + (IntKind.i64.wrap (y10 * (IntKind.i64.wrap ((IntKind.i64.wrap (1 + y8.1)) + y8.2))))))) ((Yt a0).bind fun y12 => some (IntKind.i64.wrap (1 + y12)))))
noncomputable def Jx (a0 : Zb) (a1 : Int) : Option (Zb × Int) :=
 (cond (decide (a1 < 0)) (some true) ((Yt a0).bind fun y4 => some (cond (decide (a1 < 0)) true (decide (y4 ≤ a1))))).bind fun (z2 : Bool) => cond z2 (some ((⟨(none : (Option Zj)), 0, 0, 0, 0, 0, 0, 0, 0⟩ : Zb), 0)) (cond (a0.kind == 1) ((Zb7 a0.a a0.segment (IntKind.i64.wrap ((IntKind.i64.wrap (a0.at_ + a0.words)) + a1))).bind fun y7 => some (y7.1, y7.2)) (cond (a0.kind == 8) ((Zb7 a0.a a0.segment (IntKind.i64.wrap (a0.at_ + a1))).bind fun y9 => some (y9.1, y9.2)) (cond (a0.kind == 9) (some ((⟨a0.a, 1, a0.segment, (IntKind.i64.wrap ((IntKind.i64.wrap (a0.at_ + 1)) + (IntKind.i64.wrap (a1 * (IntKind.i64.wrap (a0.words + a0.ptrs)))))), a0.words, a0.ptrs, 0, 0, 0⟩ : Zb), 0)) (some ((⟨a0.a, 10, a0.segment, a0.at_, 0, 0, 0, (IntKind.i64.wrap (a0.kind - 2)), a1⟩ : Zb), 0)))))
structure Zf where
 left : Int
noncomputable def Jc (Z9 : (Zf → Zb → Int → Option (Int × Zf))) (Z8 : (Zf → Zb → Int → Option (Int × Zf))) (Ya : (Zf → Zb → Int → Option (Int × Zf))) (a0 : Zf) (a1 : Zb) (a2 : Int) : Option (Int × Zf) :=
 ((Zcb a1).bind fun y6 => cond (decide (a2 < y6)) (some true) ((Zan a1).bind fun y7 => some (cond (decide (a2 < y6)) true (decide (a0.left < y7))))).bind fun (z3 : Bool) => cond z3 (some (3, a0)) ((Zan a1).bind fun y10 => (Yl a1).bind fun y12 => (cond (y12 == 1) (some (y12 == 1)) (some (y12 == 8))).bind fun (z13 : Bool) => cond z13 ((Z8 (⟨(IntKind.i64.wrap (a0.left - y10))⟩ : Zf) a1 (IntKind.i64.wrap (a2 - 1))).bind fun y16 => some (y16.1, y16.2)) (cond (y12 == 9) ((Ya (⟨(IntKind.i64.wrap (a0.left - y10))⟩ : Zf) a1 (IntKind.i64.wrap (a2 - 1))).bind fun y18 => some (y18.1, y18.2)) (some (0, (⟨(IntKind.i64.wrap (a0.left - y10))⟩ : Zf)))))
noncomputable def Jt (Z9 : (Zf → Zb → Int → Option (Int × Zf))) (a1 : Zb) (a2 : Int) (y2 : Int) (s0_ : (Int × Int)) : Option ((Int × Int) ⊕ ((Int × Int) ⊕ Int)) :=
 cond (decide (s0_.1 < y2)) ((Jx a1 s0_.1).bind fun y4 => cond (y4.2 != 0) (some (.inr (.inl (y4.2, s0_.2)))) ((Z9 (⟨s0_.2⟩ : Zf) y4.1 a2).bind fun y6 => cond (y6.1 != 0) (some (.inr (.inl (y6.1, y6.2.left)))) (some (.inl ((IntKind.i64.wrap (s0_.1 + 1)), y6.2.left))))) (some (.inr (.inr s0_.2)))
noncomputable def Js (Z9 : (Zf → Zb → Int → Option (Int × Zf))) (Z8 : (Zf → Zb → Int → Option (Int × Zf))) (Ya : (Zf → Zb → Int → Option (Int × Zf))) (a0 : Zf) (a1 : Zb) (a2 : Int) : Option (Int × Zf) :=
 (Yt a1).bind fun y2 => (Zs (Jt Z9 a1 a2 y2) (0, a0.left)).bind fun (z10 : ((Int × Int) ⊕ Int)) => match z10 with | .inl z10 => some (z10.1, (⟨z10.2⟩ : Zf)) | .inr z10 => some (0, (⟨z10⟩ : Zf))
noncomputable def Qo (Z8 : (Zf → Zb → Int → Option (Int × Zf))) (a1 : Zb) (a2 : Int) (y2 : Int) (s0_ : (Int × Int)) : Option ((Int × Int) ⊕ ((Int × Int) ⊕ Int)) :=
 cond (decide (s0_.1 < y2)) ((Jx a1 s0_.1).bind fun y4 => cond (y4.2 != 0) (some (.inr (.inl (y4.2, s0_.2)))) ((Z8 (⟨s0_.2⟩ : Zf) y4.1 (IntKind.i64.wrap (a2 - 1))).bind fun y6 => cond (y6.1 != 0) (some (.inr (.inl (y6.1, y6.2.left)))) (some (.inl ((IntKind.i64.wrap (s0_.1 + 1)), y6.2.left))))) (some (.inr (.inr s0_.2)))
noncomputable def Qm (Z9 : (Zf → Zb → Int → Option (Int × Zf))) (Z8 : (Zf → Zb → Int → Option (Int × Zf))) (Ya : (Zf → Zb → Int → Option (Int × Zf))) (a0 : Zf) (a1 : Zb) (a2 : Int) : Option (Int × Zf) :=
 (Yt a1).bind fun y2 => (Zs (Qo Z8 a1 a2 y2) (0, a0.left)).bind fun (z10 : ((Int × Int) ⊕ Int)) => match z10 with | .inl z10 => some (z10.1, (⟨z10.2⟩ : Zf)) | .inr z10 => some (0, (⟨z10⟩ : Zf))
noncomputable def Zp : Nat → ((Zf → Zb → Int → Option (Int × Zf)) × (Zf → Zb → Int → Option (Int × Zf)) × (Zf → Zb → Int → Option (Int × Zf)))
 | 0 => ((fun _ _ _ => none), (fun _ _ _ => none), (fun _ _ _ => none))
 | k + 1 => (Jc ((Zp k).1) ((Zp k).2.1) ((Zp k).2.2), Js ((Zp k).1) ((Zp k).2.1) ((Zp k).2.2), Qm ((Zp k).1) ((Zp k).2.1) ((Zp k).2.2))
noncomputable def Zbr (a0 : Zf) (a1 : Zb) (a2 : Int) : Option (Int × Zf) := lim fun k => (Zp k).1 a0 a1 a2
noncomputable def Zdb (a0 : (Option Zj)) (a1 : Ye) : Option (Int × Int) :=
 (Zeg a1).bind fun y2 => (Zbo a0).bind fun y4 => cond (y4.2 != 0) (some (0, y4.2)) ((Zbr (⟨y2.Weight⟩ : Zf) y4.1 y2.Depth).bind fun y6 => cond (y6.1 != 0) (some (0, y6.1)) (some ((IntKind.i64.wrap (y2.Weight - y6.2.left)), 0)))
noncomputable def Zbg (a0 : Zb) : Option Int :=
 (Yl a0).bind fun y2 => cond (y2 == 0) (some 0) (cond (y2 == 1) ((Qu a0).bind fun y5 => (Yt a0).bind fun y6 => some (IntKind.i64.wrap ((IntKind.i64.wrap (1 + y5)) + y6))) (cond (y2 == 8) ((Yt a0).bind fun y8 => some (IntKind.i64.wrap (1 + y8))) (some 1)))
noncomputable def Zca (a0 : Zb) : Option Bool :=
 ((Yl a0).bind fun y8 => cond (y8 == 1) (some true) ((Yl a0).bind fun y9 => (Zb8 y9).bind fun y10 => some (cond (y8 == 1) true y10))).bind fun (z4 : Bool) => some z4
noncomputable def Zhf (a0 : (List Int)) (a1 : Int) (a2 : Int) : Option Int :=
 (Q1 a1).bind fun y2 => cond (cond (y2.1 == 0) true (decide (a2 < 0))) (some 0) ((Xi (y2.1 ≠ 0)).bind fun u4 => (Xi ((IntKind.i64.wrap (Int.tdiv 64 y2.1)) ≠ 0)).bind fun u6 => cond (decide ((a0.length : Int) ≤ (IntKind.i64.wrap (Int.tdiv a2 (IntKind.i64.wrap (Int.tdiv 64 y2.1)))))) (some 0) ((Xi ((IntKind.i64.wrap (Int.tdiv 64 y2.1)) ≠ 0)).bind fun u12 => (Y5 a0 (IntKind.i64.wrap (Int.tdiv a2 (IntKind.i64.wrap (Int.tdiv 64 y2.1))))).bind fun x13 => (Xi ((IntKind.i64.wrap (Int.tdiv 64 y2.1)) ≠ 0)).bind fun u14 => (Xi (0 ≤ (IntKind.i64.wrap ((Int.tmod a2 (IntKind.i64.wrap (Int.tdiv 64 y2.1))) * y2.1)))).bind fun u15 => (Xi (0 ≤ y2.1)).bind fun u16 => some (IntKind.u64.wrap (Zb2 .u64 (Int.fdiv x13 (2 ^ min (Int.toNat (IntKind.i64.wrap ((Int.tmod a2 (IntKind.i64.wrap (Int.tdiv 64 y2.1))) * y2.1))) 64)) (IntKind.u64.wrap ((IntKind.u64.wrap (1 * 2 ^ min (Int.toNat y2.1) 64)) - 1))))))
noncomputable def V2 (a0 : Zb) : Option Int :=
 (Q1 a0.code).bind fun y2 => cond (y2.1 == 0) (some 0) ((Xi (y2.1 ≠ 0)).bind fun u4 => (Xi ((IntKind.i64.wrap (Int.tdiv 64 y2.1)) ≠ 0)).bind fun u7 => (Qi a0.a a0.segment (IntKind.i64.wrap (a0.at_ + (IntKind.i64.wrap (Int.tdiv a0.index (IntKind.i64.wrap (Int.tdiv 64 y2.1))))))).bind fun y8 => (Xi ((IntKind.i64.wrap (Int.tdiv 64 y2.1)) ≠ 0)).bind fun u11 => (Zhf ([y8.1] : List Int) a0.code (Int.tmod a0.index (IntKind.i64.wrap (Int.tdiv 64 y2.1)))).bind fun y12 => some y12)
noncomputable def Gi (a0 : Zb) (a1 : Int) : Option Int :=
 (cond (decide (a1 < 0)) (some true) ((Qu a0).bind fun y4 => some (cond (decide (a1 < 0)) true (decide (y4 ≤ a1))))).bind fun (z2 : Bool) => cond z2 (some 0) (cond (a0.kind == 10) ((V2 a0).bind fun y7 => some y7) ((Qi a0.a a0.segment (IntKind.i64.wrap (a0.at_ + a1))).bind fun y9 => some y9.1))
structure Zq where
 left : Int
noncomputable def Y9 (a1 : Zb) (y12 : Int) (s0_ : (Int × (List Int))) : Option ((Int × (List Int)) ⊕ (List Int)) :=
 cond (decide (s0_.1 < y12)) ((Gi a1 s0_.1).bind fun y13 => (Zeq 8 s0_.2 ([y13] : List Int)).bind fun l14 => some (.inl ((IntKind.i64.wrap (s0_.1 + 1)), l14))) (some (.inr s0_.2))
noncomputable def Yx (Xd : (Zq → Zb → Int → Option (Za × Int × Zq))) (a1 : Zb) (a2 : Int) (y18 : Int) (s1_ : (Int × (List Za) × Int)) : Option ((Int × (List Za) × Int) ⊕ ((Int × Int) ⊕ ((List Za) × Int))) :=
 cond (decide (s1_.1 < y18)) ((Jx a1 s1_.1).bind fun y20 => cond (y20.2 != 0) (some (.inr (.inl (y20.2, s1_.2.2)))) ((Xd (⟨s1_.2.2⟩ : Zq) y20.1 (IntKind.i64.wrap (a2 - 1))).bind fun y22 => cond (y22.2.1 != 0) (some (.inr (.inl (y22.2.1, y22.2.2.left)))) ((Zeq 56 s1_.2.1 ([y22.1] : List Za)).bind fun l23 => some (.inl ((IntKind.i64.wrap (s1_.1 + 1)), l23, y22.2.2.left))))) (some (.inr (.inr (s1_.2.1, s1_.2.2))))
noncomputable def Xb (Xd : (Zq → Zb → Int → Option (Za × Int × Zq))) (a0 : Zq) (a1 : Zb) (a2 : Int) : Option (Za × Int × Zq) :=
 (Zbg a1).bind fun y2 => (cond (decide ((IntKind.i64.wrap (a0.left - y2)) < 0)) (some true) (cond (a2 == 0) ((Zca a1).bind fun y6 => some (cond (decide ((IntKind.i64.wrap (a0.left - y2)) < 0)) true (cond (a2 == 0) y6 false))) (some (cond (decide ((IntKind.i64.wrap (a0.left - y2)) < 0)) true false)))).bind fun (z4 : Bool) => cond z4 (some ((⟨0, [], []⟩ : Za), 3, (⟨(IntKind.i64.wrap (a0.left - y2))⟩ : Zq))) ((Yl a1).bind fun y10 => (Qu a1).bind fun y12 => (Zs (Y9 a1 y12) (0, ([] : List Int))).bind fun (z16 : (List Int)) => (Yt a1).bind fun y18 => (Zs (Yx Xd a1 a2 y18) (0, ([] : List Za), (IntKind.i64.wrap (a0.left - y2)))).bind fun (z27 : ((Int × Int) ⊕ ((List Za) × Int))) => match z27 with | .inl z27 => some ((⟨0, [], []⟩ : Za), z27.1, (⟨z27.2⟩ : Zq)) | .inr z27 => some ((⟨y10, z16, z27.1⟩ : Za), 0, (⟨z27.2⟩ : Zq)))
noncomputable def Yc : Nat → (Zq → Zb → Int → Option (Za × Int × Zq))
 | 0 => (fun _ _ _ => none)
 | k + 1 => Xb ((Yc k))
noncomputable def Zam (a0 : Zq) (a1 : Zb) (a2 : Int) : Option (Za × Int × Zq) := lim fun k => (Yc k) a0 a1 a2
noncomputable def Zb9 (a0 : Zb) : Option (Za × Int) :=
 (Zam (⟨65536⟩ : Zq) a0 64).bind fun y2 => some (y2.1, y2.2.1)
noncomputable def K5 (a0 : (Option Zj)) (a1 : Ye) : Option (Za × Int) :=
 (Zdb a0 a1).bind fun y2 => cond (y2.2 != 0) (some ((⟨0, [], []⟩ : Za), y2.2)) ((Zbo a0).bind fun y4 => cond (y4.2 != 0) (some ((⟨0, [], []⟩ : Za), y4.2)) ((Zb9 y4.1).bind fun y6 => (Zfo y6.1).bind fun y8 => some (y8, y6.2)))
noncomputable def Xn (a0 : (List Int)) (a1 : (List Int)) (s0_ : Int) : Option (Int ⊕ (Unit ⊕ Unit)) :=
 cond (decide (s0_ < (a0.length : Int))) ((Y5 a0 s0_).bind fun x3 => (Y5 a1 s0_).bind fun x4 => cond (x3 != x4) (some (.inr (.inl ()))) (some (.inl (IntKind.i64.wrap (s0_ + 1))))) (some (.inr (.inr ())))
noncomputable def X8 (a0 : (List Int)) (a1 : (List Int)) : Option Bool :=
 cond ((a0.length : Int) != (a1.length : Int)) (some false) ((Zs (Xn a0 a1) 0).bind fun (z7 : (Unit ⊕ Unit)) => match z7 with | .inl z7 => some false | .inr z7 => some true)
noncomputable def Zb5 (a0 : (List Int)) (a1 : Ye) : Option (Za × Int) :=
 (Zez ([a0] : List (List Int))).bind fun y25 => (K5 y25 a1).bind fun y49 => cond (y49.2 != 0) (some ((⟨0, [], []⟩ : Za), y49.2)) ((Up y49.1 (a0.length : Int)).bind fun y134 => (cond y134.2 ((X8 y134.1 a0).bind fun y138 => some (cond (!y134.2) true (!y138))) (some true)).bind fun (z136 : Bool) => cond z136 (some ((⟨0, [], []⟩ : Za), 5)) (some (y49.1, 0)))
noncomputable def Vg (Jb : (Za → Za → Option Bool)) (a0 : Za) (a1 : Za) (s0_ : Int) : Option (Int ⊕ (Unit ⊕ Unit)) :=
 cond (decide (s0_ < (a0.Kids.length : Int))) ((Y5 a0.Kids s0_).bind fun x9 => (Y5 a1.Kids s0_).bind fun x10 => (Jb x9 x10).bind fun y11 => cond (!y11) (some (.inr (.inl ()))) (some (.inl (IntKind.i64.wrap (s0_ + 1))))) (some (.inr (.inr ())))
noncomputable def Ga (Jb : (Za → Za → Option Bool)) (a0 : Za) (a1 : Za) : Option Bool :=
 (cond (a0.Kind != a1.Kind) (some true) ((Vr a0.Words a1.Words).bind fun y4 => some (cond (cond (a0.Kind != a1.Kind) true (!y4)) true ((a0.Kids.length : Int) != (a1.Kids.length : Int))))).bind fun (z2 : Bool) => cond z2 (some false) ((Zs (Vg Jb a0 a1) 0).bind fun (z14 : (Unit ⊕ Unit)) => match z14 with | .inl z14 => some false | .inr z14 => some true)
noncomputable def Jo : Nat → (Za → Za → Option Bool)
 | 0 => (fun _ _ => none)
 | k + 1 => Ga ((Jo k))
noncomputable def Gg (a0 : Za) (a1 : Za) : Option Bool := lim fun k => (Jo k) a0 a1
noncomputable def Ub (a0 : Za) : Option Bool :=
 ((Zcn a0).bind fun y6 => cond y6 ((Ur a0 64).bind fun y7 => some (cond (cond (!y6) true (!y7)) true (a0.Kind == 10))) (some true)).bind fun (z3 : Bool) => cond z3 ((Qs).bind fun y10 => some y10) ((Zbv a0).bind fun y12 => (Up a0 131072).bind fun y14 => (Vs y12).bind fun y16 => cond (decide (131072 ≤ y16)) ((cond y14.2 (some false) ((Qs).bind fun y20 => some (cond (!y14.2) y20 false))).bind fun (z18 : Bool) => some z18) ((Zcv y12).bind fun y24 => (Zcx y24).bind fun y25 => cond (decide (65536 < y25)) ((cond y14.2 ((Qs).bind fun y29 => some (cond y14.2 y29 false)) (some false)).bind fun (z27 : Bool) => some z27) ((Zez ([y14.1] : List (List Int))).bind fun y55 => (K5 y55 (⟨64, 65536, 0, 0⟩ : Ye)).bind fun y79 => (Zb5 y14.1 (⟨64, 65536, 0, 0⟩ : Ye)).bind fun y164 => (cond y14.2 ((Vs y12).bind fun y174 => cond ((y14.1.length : Int) == (IntKind.i64.wrap (y174 + 1))) (cond (y79.2 == 0) ((Gg y79.1 y12).bind fun y175 => cond y175 (cond (y164.2 == 0) ((Gg y164.1 y12).bind fun y176 => cond y176 ((Qs).bind fun y177 => some (cond (cond (cond (cond (cond (cond y14.2 ((y14.1.length : Int) == (IntKind.i64.wrap (y174 + 1))) false) (y79.2 == 0) false) y175 false) (y164.2 == 0) false) y176 false) y177 false)) (some false)) (some false)) (some false)) (some false)) (some false)) (some false)).bind fun (z169 : Bool) => some z169)))
end Go.Proofs.Ytpfbdlcnfekdkaa
