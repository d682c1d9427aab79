/- Part H22 of the ghost memory: lemmas and contracts used by the proofs of this seat's laws; each theorem bears its own conditions. -/
import Derived.Test.YtgpaglmhkklneaaGreatH21
import Derived.WalkKit
import Derived.WalkSpells
import Derived.WalkLawsBesides
import Derived.Lib.Hide
import Derived.BigQuiet
import Derived.StillTailTactics
import Derived.Deep.RegionHeld3
import Derived.Deep.AppendLies
import Derived.Laws.CopyOwn
import Derived.Deep.DeepCutAuto
import Derived.Deep.QuietTactic
import Derived.Maps.AppendAt
import Derived.Great.BuildSlice
import Derived.Laws.StructEq
import Derived.ChangeKeysEq
import Derived.IntWalk
import Derived.Lib.AppendZeros
import Derived.Lib.AppendZerosOnto
import Derived.ProofKit
import Derived.OpenShut
import Derived.SizedLaws
import Derived.Deep.Slices
namespace Go.Proofs.YtgpaglmhkklneaaGreat
open Go.RowKit
set_option linter.unusedVariables false
set_option linter.unusedSimpArgs false
section
variable {α : Type} {xs : List α} {f : α → List G} {sz : Nat} {ph cs : List G}
theorem Zao (hf : ∀ x, (f x).length = sz) (hp : ph.length = sz) (hc : cs.length = sz) : Kh (fl f xs ++ ph) cs (xs.length * sz) = some (fl f xs ++ cs) := by
 unfold Kh
 have hl := Qr hf xs
 rw [if_pos (by rw [List.length_append, hl]; omega), List.take_left' hl, List.drop_eq_nil_of_le (by rw [List.length_append, hl]; omega), List.append_nil]
end
theorem Zov (ρ : Nat → Nat) : ∀ a b : List G, G.rens ρ (a ++ b) = G.rens ρ a ++ G.rens ρ b
 | [], b => by simp [G.rens]
 | x :: a, b => by simp [G.rens, Zov ρ a b]
theorem Zrr (X : Objs) (n : Nat) (x0 x1 x2 x3 x4 x5 : Option GObj) (l' : List (Option GObj)) : Zy (Zy X n [x0, x1, x2, x3, x4, x5]) (n + 6) l' = Zy X n (x0 :: x1 :: x2 :: x3 :: x4 :: x5 :: l') := U5 X n [x0, x1, x2, x3, x4, x5] l' rfl
theorem Zrs (X : Objs) (n : Nat) (x0 x1 x2 x3 x4 x5 x6 : Option GObj) (l' : List (Option GObj)) : Zy (Zy X n [x0, x1, x2, x3, x4, x5, x6]) (n + 7) l' = Zy X n (x0 :: x1 :: x2 :: x3 :: x4 :: x5 :: x6 :: l') := U5 X n [x0, x1, x2, x3, x4, x5, x6] l' rfl
theorem Zrt (X : Objs) (n : Nat) (x0 x1 x2 x3 x4 x5 x6 x7 : Option GObj) (l' : List (Option GObj)) : Zy (Zy X n [x0, x1, x2, x3, x4, x5, x6, x7]) (n + 8) l' = Zy X n (x0 :: x1 :: x2 :: x3 :: x4 :: x5 :: x6 :: x7 :: l') := U5 X n [x0, x1, x2, x3, x4, x5, x6, x7] l' rfl
theorem Zru (X : Objs) (n : Nat) (x0 x1 x2 x3 x4 x5 x6 x7 x8 : Option GObj) (l' : List (Option GObj)) : Zy (Zy X n [x0, x1, x2, x3, x4, x5, x6, x7, x8]) (n + 9) l' = Zy X n (x0 :: x1 :: x2 :: x3 :: x4 :: x5 :: x6 :: x7 :: x8 :: l') := U5 X n [x0, x1, x2, x3, x4, x5, x6, x7, x8] l' rfl
theorem Zo6 (X : Objs) (n : Nat) (x0 x1 x2 x3 x4 x5 x6 x7 x8 x9 : Option GObj) (l' : List (Option GObj)) : Zy (Zy X n [x0, x1, x2, x3, x4, x5, x6, x7, x8, x9]) (n + 10) l' = Zy X n (x0 :: x1 :: x2 :: x3 :: x4 :: x5 :: x6 :: x7 :: x8 :: x9 :: l') := U5 X n [x0, x1, x2, x3, x4, x5, x6, x7, x8, x9] l' rfl
theorem Zo7 (X : Objs) (n : Nat) (x0 x1 x2 x3 x4 x5 x6 x7 x8 x9 x10 : Option GObj) (l' : List (Option GObj)) : Zy (Zy X n [x0, x1, x2, x3, x4, x5, x6, x7, x8, x9, x10]) (n + 11) l' = Zy X n (x0 :: x1 :: x2 :: x3 :: x4 :: x5 :: x6 :: x7 :: x8 :: x9 :: x10 :: l') := U5 X n [x0, x1, x2, x3, x4, x5, x6, x7, x8, x9, x10] l' rfl
theorem Zo8 (X : Objs) (n : Nat) (x0 x1 x2 x3 x4 x5 x6 x7 x8 x9 x10 x11 : Option GObj) (l' : List (Option GObj)) : Zy (Zy X n [x0, x1, x2, x3, x4, x5, x6, x7, x8, x9, x10, x11]) (n + 12) l' = Zy X n (x0 :: x1 :: x2 :: x3 :: x4 :: x5 :: x6 :: x7 :: x8 :: x9 :: x10 :: x11 :: l') := U5 X n [x0, x1, x2, x3, x4, x5, x6, x7, x8, x9, x10, x11] l' rfl
theorem Zo9 (X : Objs) (n : Nat) (x0 x1 x2 x3 x4 x5 x6 x7 x8 x9 x10 x11 x12 : Option GObj) (l' : List (Option GObj)) : Zy (Zy X n [x0, x1, x2, x3, x4, x5, x6, x7, x8, x9, x10, x11, x12]) (n + 13) l' = Zy X n (x0 :: x1 :: x2 :: x3 :: x4 :: x5 :: x6 :: x7 :: x8 :: x9 :: x10 :: x11 :: x12 :: l') := U5 X n [x0, x1, x2, x3, x4, x5, x6, x7, x8, x9, x10, x11, x12] l' rfl
theorem Zpa (X : Objs) (n : Nat) (x0 x1 x2 x3 x4 x5 x6 x7 x8 x9 x10 x11 x12 x13 : Option GObj) (l' : List (Option GObj)) : Zy (Zy X n [x0, x1, x2, x3, x4, x5, x6, x7, x8, x9, x10, x11, x12, x13]) (n + 14) l' = Zy X n (x0 :: x1 :: x2 :: x3 :: x4 :: x5 :: x6 :: x7 :: x8 :: x9 :: x10 :: x11 :: x12 :: x13 :: l') := U5 X n [x0, x1, x2, x3, x4, x5, x6, x7, x8, x9, x10, x11, x12, x13] l' rfl
theorem Zpb (X : Objs) (n : Nat) (x0 x1 x2 x3 x4 x5 x6 x7 x8 x9 x10 x11 x12 x13 x14 : Option GObj) (l' : List (Option GObj)) : Zy (Zy X n [x0, x1, x2, x3, x4, x5, x6, x7, x8, x9, x10, x11, x12, x13, x14]) (n + 15) l' = Zy X n (x0 :: x1 :: x2 :: x3 :: x4 :: x5 :: x6 :: x7 :: x8 :: x9 :: x10 :: x11 :: x12 :: x13 :: x14 :: l') := U5 X n [x0, x1, x2, x3, x4, x5, x6, x7, x8, x9, x10, x11, x12, x13, x14] l' rfl
theorem Zpc (X : Objs) (n : Nat) (x0 x1 x2 x3 x4 x5 x6 x7 x8 x9 x10 x11 x12 x13 x14 x15 : Option GObj) (l' : List (Option GObj)) : Zy (Zy X n [x0, x1, x2, x3, x4, x5, x6, x7, x8, x9, x10, x11, x12, x13, x14, x15]) (n + 16) l' = Zy X n (x0 :: x1 :: x2 :: x3 :: x4 :: x5 :: x6 :: x7 :: x8 :: x9 :: x10 :: x11 :: x12 :: x13 :: x14 :: x15 :: l') := U5 X n [x0, x1, x2, x3, x4, x5, x6, x7, x8, x9, x10, x11, x12, x13, x14, x15] l' rfl
end Go.Proofs.YtgpaglmhkklneaaGreat
