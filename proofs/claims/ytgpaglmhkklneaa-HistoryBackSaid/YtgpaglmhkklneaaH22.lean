/- Part H22 of the ghost memory: lemmas and contracts used by the proofs of this seat's laws; each theorem bears its own conditions. -/
import Derived.Test.YtgpaglmhkklneaaH21
import Derived.WalkKit
import Derived.WalkSpells
import Derived.WalkLawsBesides
import Derived.Lib.Hide
import Derived.BigQuiet
import Derived.StillTailTactics
import Derived.Deep.RegionHeld3
import Derived.Deep.AppendLies
import Derived.Laws.CopyOwn
import Derived.Deep.DeepCutAuto
import Derived.Deep.QuietTactic
import Derived.Maps.AppendAt
import Derived.Great.BuildSlice
import Derived.Laws.StructEq
import Derived.ChangeKeysEq
import Derived.IntWalk
import Derived.Lib.AppendZeros
import Derived.Lib.AppendZerosOnto
import Derived.ProofKit
import Derived.OpenShut
import Derived.SizedLaws
import Derived.Deep.Slices
namespace Go.Proofs.Ytgpaglmhkklneaa
open Go.RowKit
set_option linter.unusedVariables false
set_option linter.unusedSimpArgs false
section
variable {α : Type} {xs : List α} {f : α → List G} {sz : Nat} {ph cs : List G}
theorem Zc5 (hf : ∀ x, (f x).length = sz) (hp : ph.length = sz) (hc : cs.length = sz) : Kc (fl f xs ++ ph) cs (xs.length * sz) = some (fl f xs ++ cs) := by
 unfold Kc
 have hl := Jm hf xs
 rw [if_pos (by rw [List.length_append, hl]; omega), List.take_left' hl, List.drop_eq_nil_of_le (by rw [List.length_append, hl]; omega), List.append_nil]
end
theorem Zoi (ρ : Nat → Nat) : ∀ a b : List G, G.rens ρ (a ++ b) = G.rens ρ a ++ G.rens ρ b
 | [], b => by simp [G.rens]
 | x :: a, b => by simp [G.rens, Zoi ρ a b]
theorem Zrd (X : Objs) (n : Nat) (x0 x1 x2 x3 x4 x5 : Option GObj) (l' : List (Option GObj)) : Zv (Zv X n [x0, x1, x2, x3, x4, x5]) (n + 6) l' = Zv X n (x0 :: x1 :: x2 :: x3 :: x4 :: x5 :: l') := K8 X n [x0, x1, x2, x3, x4, x5] l' rfl
theorem Zre (X : Objs) (n : Nat) (x0 x1 x2 x3 x4 x5 x6 : Option GObj) (l' : List (Option GObj)) : Zv (Zv X n [x0, x1, x2, x3, x4, x5, x6]) (n + 7) l' = Zv X n (x0 :: x1 :: x2 :: x3 :: x4 :: x5 :: x6 :: l') := K8 X n [x0, x1, x2, x3, x4, x5, x6] l' rfl
theorem Zrf (X : Objs) (n : Nat) (x0 x1 x2 x3 x4 x5 x6 x7 : Option GObj) (l' : List (Option GObj)) : Zv (Zv X n [x0, x1, x2, x3, x4, x5, x6, x7]) (n + 8) l' = Zv X n (x0 :: x1 :: x2 :: x3 :: x4 :: x5 :: x6 :: x7 :: l') := K8 X n [x0, x1, x2, x3, x4, x5, x6, x7] l' rfl
theorem Zrg (X : Objs) (n : Nat) (x0 x1 x2 x3 x4 x5 x6 x7 x8 : Option GObj) (l' : List (Option GObj)) : Zv (Zv X n [x0, x1, x2, x3, x4, x5, x6, x7, x8]) (n + 9) l' = Zv X n (x0 :: x1 :: x2 :: x3 :: x4 :: x5 :: x6 :: x7 :: x8 :: l') := K8 X n [x0, x1, x2, x3, x4, x5, x6, x7, x8] l' rfl
theorem Zou (X : Objs) (n : Nat) (x0 x1 x2 x3 x4 x5 x6 x7 x8 x9 : Option GObj) (l' : List (Option GObj)) : Zv (Zv X n [x0, x1, x2, x3, x4, x5, x6, x7, x8, x9]) (n + 10) l' = Zv X n (x0 :: x1 :: x2 :: x3 :: x4 :: x5 :: x6 :: x7 :: x8 :: x9 :: l') := K8 X n [x0, x1, x2, x3, x4, x5, x6, x7, x8, x9] l' rfl
theorem Zov (X : Objs) (n : Nat) (x0 x1 x2 x3 x4 x5 x6 x7 x8 x9 x10 : Option GObj) (l' : List (Option GObj)) : Zv (Zv X n [x0, x1, x2, x3, x4, x5, x6, x7, x8, x9, x10]) (n + 11) l' = Zv X n (x0 :: x1 :: x2 :: x3 :: x4 :: x5 :: x6 :: x7 :: x8 :: x9 :: x10 :: l') := K8 X n [x0, x1, x2, x3, x4, x5, x6, x7, x8, x9, x10] l' rfl
theorem Zow (X : Objs) (n : Nat) (x0 x1 x2 x3 x4 x5 x6 x7 x8 x9 x10 x11 : Option GObj) (l' : List (Option GObj)) : Zv (Zv X n [x0, x1, x2, x3, x4, x5, x6, x7, x8, x9, x10, x11]) (n + 12) l' = Zv X n (x0 :: x1 :: x2 :: x3 :: x4 :: x5 :: x6 :: x7 :: x8 :: x9 :: x10 :: x11 :: l') := K8 X n [x0, x1, x2, x3, x4, x5, x6, x7, x8, x9, x10, x11] l' rfl
theorem Zox (X : Objs) (n : Nat) (x0 x1 x2 x3 x4 x5 x6 x7 x8 x9 x10 x11 x12 : Option GObj) (l' : List (Option GObj)) : Zv (Zv X n [x0, x1, x2, x3, x4, x5, x6, x7, x8, x9, x10, x11, x12]) (n + 13) l' = Zv X n (x0 :: x1 :: x2 :: x3 :: x4 :: x5 :: x6 :: x7 :: x8 :: x9 :: x10 :: x11 :: x12 :: l') := K8 X n [x0, x1, x2, x3, x4, x5, x6, x7, x8, x9, x10, x11, x12] l' rfl
theorem Zoy (X : Objs) (n : Nat) (x0 x1 x2 x3 x4 x5 x6 x7 x8 x9 x10 x11 x12 x13 : Option GObj) (l' : List (Option GObj)) : Zv (Zv X n [x0, x1, x2, x3, x4, x5, x6, x7, x8, x9, x10, x11, x12, x13]) (n + 14) l' = Zv X n (x0 :: x1 :: x2 :: x3 :: x4 :: x5 :: x6 :: x7 :: x8 :: x9 :: x10 :: x11 :: x12 :: x13 :: l') := K8 X n [x0, x1, x2, x3, x4, x5, x6, x7, x8, x9, x10, x11, x12, x13] l' rfl
theorem Zoz (X : Objs) (n : Nat) (x0 x1 x2 x3 x4 x5 x6 x7 x8 x9 x10 x11 x12 x13 x14 : Option GObj) (l' : List (Option GObj)) : Zv (Zv X n [x0, x1, x2, x3, x4, x5, x6, x7, x8, x9, x10, x11, x12, x13, x14]) (n + 15) l' = Zv X n (x0 :: x1 :: x2 :: x3 :: x4 :: x5 :: x6 :: x7 :: x8 :: x9 :: x10 :: x11 :: x12 :: x13 :: x14 :: l') := K8 X n [x0, x1, x2, x3, x4, x5, x6, x7, x8, x9, x10, x11, x12, x13, x14] l' rfl
theorem Zo0 (X : Objs) (n : Nat) (x0 x1 x2 x3 x4 x5 x6 x7 x8 x9 x10 x11 x12 x13 x14 x15 : Option GObj) (l' : List (Option GObj)) : Zv (Zv X n [x0, x1, x2, x3, x4, x5, x6, x7, x8, x9, x10, x11, x12, x13, x14, x15]) (n + 16) l' = Zv X n (x0 :: x1 :: x2 :: x3 :: x4 :: x5 :: x6 :: x7 :: x8 :: x9 :: x10 :: x11 :: x12 :: x13 :: x14 :: x15 :: l') := K8 X n [x0, x1, x2, x3, x4, x5, x6, x7, x8, x9, x10, x11, x12, x13, x14, x15] l' rfl
theorem Zo1 (X : Objs) (n : Nat) (x0 x1 x2 x3 x4 x5 x6 x7 x8 x9 x10 x11 x12 x13 x14 x15 x16 : Option GObj) (l' : List (Option GObj)) : Zv (Zv X n [x0, x1, x2, x3, x4, x5, x6, x7, x8, x9, x10, x11, x12, x13, x14, x15, x16]) (n + 17) l' = Zv X n (x0 :: x1 :: x2 :: x3 :: x4 :: x5 :: x6 :: x7 :: x8 :: x9 :: x10 :: x11 :: x12 :: x13 :: x14 :: x15 :: x16 :: l') := K8 X n [x0, x1, x2, x3, x4, x5, x6, x7, x8, x9, x10, x11, x12, x13, x14, x15, x16] l' rfl
theorem Zo2 (X : Objs) (n : Nat) (x0 x1 x2 x3 x4 x5 x6 x7 x8 x9 x10 x11 x12 x13 x14 x15 x16 x17 : Option GObj) (l' : List (Option GObj)) : Zv (Zv X n [x0, x1, x2, x3, x4, x5, x6, x7, x8, x9, x10, x11, x12, x13, x14, x15, x16, x17]) (n + 18) l' = Zv X n (x0 :: x1 :: x2 :: x3 :: x4 :: x5 :: x6 :: x7 :: x8 :: x9 :: x10 :: x11 :: x12 :: x13 :: x14 :: x15 :: x16 :: x17 :: l') := K8 X n [x0, x1, x2, x3, x4, x5, x6, x7, x8, x9, x10, x11, x12, x13, x14, x15, x16, x17] l' rfl
theorem Zo3 (X : Objs) (n : Nat) (x0 x1 x2 x3 x4 x5 x6 x7 x8 x9 x10 x11 x12 x13 x14 x15 x16 x17 x18 : Option GObj) (l' : List (Option GObj)) : Zv (Zv X n [x0, x1, x2, x3, x4, x5, x6, x7, x8, x9, x10, x11, x12, x13, x14, x15, x16, x17, x18]) (n + 19) l' = Zv X n (x0 :: x1 :: x2 :: x3 :: x4 :: x5 :: x6 :: x7 :: x8 :: x9 :: x10 :: x11 :: x12 :: x13 :: x14 :: x15 :: x16 :: x17 :: x18 :: l') := K8 X n [x0, x1, x2, x3, x4, x5, x6, x7, x8, x9, x10, x11, x12, x13, x14, x15, x16, x17, x18] l' rfl
theorem Zo4 (X : Objs) (n : Nat) (x0 x1 x2 x3 x4 x5 x6 x7 x8 x9 x10 x11 x12 x13 x14 x15 x16 x17 x18 x19 : Option GObj) (l' : List (Option GObj)) : Zv (Zv X n [x0, x1, x2, x3, x4, x5, x6, x7, x8, x9, x10, x11, x12, x13, x14, x15, x16, x17, x18, x19]) (n + 20) l' = Zv X n (x0 :: x1 :: x2 :: x3 :: x4 :: x5 :: x6 :: x7 :: x8 :: x9 :: x10 :: x11 :: x12 :: x13 :: x14 :: x15 :: x16 :: x17 :: x18 :: x19 :: l') := K8 X n [x0, x1, x2, x3, x4, x5, x6, x7, x8, x9, x10, x11, x12, x13, x14, x15, x16, x17, x18, x19] l' rfl
theorem Zo5 (X : Objs) (n : Nat) (x0 x1 x2 x3 x4 x5 x6 x7 x8 x9 x10 x11 x12 x13 x14 x15 x16 x17 x18 x19 x20 : Option GObj) (l' : List (Option GObj)) : Zv (Zv X n [x0, x1, x2, x3, x4, x5, x6, x7, x8, x9, x10, x11, x12, x13, x14, x15, x16, x17, x18, x19, x20]) (n + 21) l' = Zv X n (x0 :: x1 :: x2 :: x3 :: x4 :: x5 :: x6 :: x7 :: x8 :: x9 :: x10 :: x11 :: x12 :: x13 :: x14 :: x15 :: x16 :: x17 :: x18 :: x19 :: x20 :: l') := K8 X n [x0, x1, x2, x3, x4, x5, x6, x7, x8, x9, x10, x11, x12, x13, x14, x15, x16, x17, x18, x19, x20] l' rfl
theorem Zo6 (X : Objs) (n : Nat) (x0 x1 x2 x3 x4 x5 x6 x7 x8 x9 x10 x11 x12 x13 x14 x15 x16 x17 x18 x19 x20 x21 : Option GObj) (l' : List (Option GObj)) : Zv (Zv X n [x0, x1, x2, x3, x4, x5, x6, x7, x8, x9, x10, x11, x12, x13, x14, x15, x16, x17, x18, x19, x20, x21]) (n + 22) l' = Zv X n (x0 :: x1 :: x2 :: x3 :: x4 :: x5 :: x6 :: x7 :: x8 :: x9 :: x10 :: x11 :: x12 :: x13 :: x14 :: x15 :: x16 :: x17 :: x18 :: x19 :: x20 :: x21 :: l') := K8 X n [x0, x1, x2, x3, x4, x5, x6, x7, x8, x9, x10, x11, x12, x13, x14, x15, x16, x17, x18, x19, x20, x21] l' rfl
end Go.Proofs.Ytgpaglmhkklneaa
