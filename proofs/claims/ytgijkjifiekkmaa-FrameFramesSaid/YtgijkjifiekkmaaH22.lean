/- Part H22 of the ghost memory: lemmas and contracts used by the proofs of this seat's laws; each theorem bears its own conditions. -/
import Derived.Test.YtgijkjifiekkmaaH21
import Derived.WalkKit
import Derived.WalkSpells
import Derived.WalkLawsBesides
import Derived.Lib.Hide
import Derived.BigQuiet
import Derived.StillTailTactics
import Derived.Deep.RegionHeld3
import Derived.Deep.AppendLies
import Derived.Laws.CopyOwn
import Derived.Deep.DeepCutAuto
import Derived.Deep.QuietTactic
import Derived.Maps.AppendAt
import Derived.Great.BuildSlice
import Derived.Laws.StructEq
import Derived.IntWalk
import Derived.ProofKit
import Derived.OpenShut
import Derived.SizedLaws
import Derived.Deep.Slices
namespace Go.Proofs.Ytgijkjifiekkmaa
open Go.RowKit
set_option linter.unusedVariables false
set_option linter.unusedSimpArgs false
theorem Zb8 (ρ : Nat → Nat) : ∀ a b : List G, G.rens ρ (a ++ b) = G.rens ρ a ++ G.rens ρ b
 | [], b => by simp [G.rens]
 | x :: a, b => by simp [G.rens, Zb8 ρ a b]
theorem Zfe (X : Objs) (n : Nat) (x0 x1 x2 x3 x4 x5 : Option GObj) (l' : List (Option GObj)) : Zk (Zk X n [x0, x1, x2, x3, x4, x5]) (n + 6) l' = Zk X n (x0 :: x1 :: x2 :: x3 :: x4 :: x5 :: l') := Xk X n [x0, x1, x2, x3, x4, x5] l' rfl
theorem Zff (X : Objs) (n : Nat) (x0 x1 x2 x3 x4 x5 x6 : Option GObj) (l' : List (Option GObj)) : Zk (Zk X n [x0, x1, x2, x3, x4, x5, x6]) (n + 7) l' = Zk X n (x0 :: x1 :: x2 :: x3 :: x4 :: x5 :: x6 :: l') := Xk X n [x0, x1, x2, x3, x4, x5, x6] l' rfl
theorem Zfg (X : Objs) (n : Nat) (x0 x1 x2 x3 x4 x5 x6 x7 : Option GObj) (l' : List (Option GObj)) : Zk (Zk X n [x0, x1, x2, x3, x4, x5, x6, x7]) (n + 8) l' = Zk X n (x0 :: x1 :: x2 :: x3 :: x4 :: x5 :: x6 :: x7 :: l') := Xk X n [x0, x1, x2, x3, x4, x5, x6, x7] l' rfl
theorem Zfh (X : Objs) (n : Nat) (x0 x1 x2 x3 x4 x5 x6 x7 x8 : Option GObj) (l' : List (Option GObj)) : Zk (Zk X n [x0, x1, x2, x3, x4, x5, x6, x7, x8]) (n + 9) l' = Zk X n (x0 :: x1 :: x2 :: x3 :: x4 :: x5 :: x6 :: x7 :: x8 :: l') := Xk X n [x0, x1, x2, x3, x4, x5, x6, x7, x8] l' rfl
theorem Zc3 (X : Objs) (n : Nat) (x0 x1 x2 x3 x4 x5 x6 x7 x8 x9 : Option GObj) (l' : List (Option GObj)) : Zk (Zk X n [x0, x1, x2, x3, x4, x5, x6, x7, x8, x9]) (n + 10) l' = Zk X n (x0 :: x1 :: x2 :: x3 :: x4 :: x5 :: x6 :: x7 :: x8 :: x9 :: l') := Xk X n [x0, x1, x2, x3, x4, x5, x6, x7, x8, x9] l' rfl
theorem Zc4 (X : Objs) (n : Nat) (x0 x1 x2 x3 x4 x5 x6 x7 x8 x9 x10 : Option GObj) (l' : List (Option GObj)) : Zk (Zk X n [x0, x1, x2, x3, x4, x5, x6, x7, x8, x9, x10]) (n + 11) l' = Zk X n (x0 :: x1 :: x2 :: x3 :: x4 :: x5 :: x6 :: x7 :: x8 :: x9 :: x10 :: l') := Xk X n [x0, x1, x2, x3, x4, x5, x6, x7, x8, x9, x10] l' rfl
theorem Zc5 (X : Objs) (n : Nat) (x0 x1 x2 x3 x4 x5 x6 x7 x8 x9 x10 x11 : Option GObj) (l' : List (Option GObj)) : Zk (Zk X n [x0, x1, x2, x3, x4, x5, x6, x7, x8, x9, x10, x11]) (n + 12) l' = Zk X n (x0 :: x1 :: x2 :: x3 :: x4 :: x5 :: x6 :: x7 :: x8 :: x9 :: x10 :: x11 :: l') := Xk X n [x0, x1, x2, x3, x4, x5, x6, x7, x8, x9, x10, x11] l' rfl
theorem Zc6 (X : Objs) (n : Nat) (x0 x1 x2 x3 x4 x5 x6 x7 x8 x9 x10 x11 x12 : Option GObj) (l' : List (Option GObj)) : Zk (Zk X n [x0, x1, x2, x3, x4, x5, x6, x7, x8, x9, x10, x11, x12]) (n + 13) l' = Zk X n (x0 :: x1 :: x2 :: x3 :: x4 :: x5 :: x6 :: x7 :: x8 :: x9 :: x10 :: x11 :: x12 :: l') := Xk X n [x0, x1, x2, x3, x4, x5, x6, x7, x8, x9, x10, x11, x12] l' rfl
theorem Zc7 (X : Objs) (n : Nat) (x0 x1 x2 x3 x4 x5 x6 x7 x8 x9 x10 x11 x12 x13 : Option GObj) (l' : List (Option GObj)) : Zk (Zk X n [x0, x1, x2, x3, x4, x5, x6, x7, x8, x9, x10, x11, x12, x13]) (n + 14) l' = Zk X n (x0 :: x1 :: x2 :: x3 :: x4 :: x5 :: x6 :: x7 :: x8 :: x9 :: x10 :: x11 :: x12 :: x13 :: l') := Xk X n [x0, x1, x2, x3, x4, x5, x6, x7, x8, x9, x10, x11, x12, x13] l' rfl
theorem Zc8 (X : Objs) (n : Nat) (x0 x1 x2 x3 x4 x5 x6 x7 x8 x9 x10 x11 x12 x13 x14 : Option GObj) (l' : List (Option GObj)) : Zk (Zk X n [x0, x1, x2, x3, x4, x5, x6, x7, x8, x9, x10, x11, x12, x13, x14]) (n + 15) l' = Zk X n (x0 :: x1 :: x2 :: x3 :: x4 :: x5 :: x6 :: x7 :: x8 :: x9 :: x10 :: x11 :: x12 :: x13 :: x14 :: l') := Xk X n [x0, x1, x2, x3, x4, x5, x6, x7, x8, x9, x10, x11, x12, x13, x14] l' rfl
theorem Zc9 (X : Objs) (n : Nat) (x0 x1 x2 x3 x4 x5 x6 x7 x8 x9 x10 x11 x12 x13 x14 x15 : Option GObj) (l' : List (Option GObj)) : Zk (Zk X n [x0, x1, x2, x3, x4, x5, x6, x7, x8, x9, x10, x11, x12, x13, x14, x15]) (n + 16) l' = Zk X n (x0 :: x1 :: x2 :: x3 :: x4 :: x5 :: x6 :: x7 :: x8 :: x9 :: x10 :: x11 :: x12 :: x13 :: x14 :: x15 :: l') := Xk X n [x0, x1, x2, x3, x4, x5, x6, x7, x8, x9, x10, x11, x12, x13, x14, x15] l' rfl
end Go.Proofs.Ytgijkjifiekkmaa
