/- Part H22 of the ghost memory: lemmas and contracts used by the proofs of this seat's laws; each theorem bears its own conditions. -/
import Derived.Test.YtgffgbdnbjbmoaaH21
import Derived.WalkKit
import Derived.WalkSpells
import Derived.WalkLawsBesides
import Derived.Lib.Hide
import Derived.BigQuiet
import Derived.StillTailTactics
import Derived.Deep.RegionHeld3
import Derived.Deep.AppendLies
import Derived.Laws.CopyOwn
import Derived.Deep.DeepCutAuto
import Derived.Deep.QuietTactic
import Derived.Maps.AppendAt
import Derived.Great.BuildSlice
import Derived.Laws.StructEq
import Derived.ChangeKeysEq
import Derived.IntWalk
import Derived.Lib.AppendZeros
import Derived.Lib.AppendZerosOnto
import Derived.ProofKit
import Derived.OpenShut
import Derived.SizedLaws
import Derived.Deep.Slices
namespace Go.Proofs.Ytgffgbdnbjbmoaa
open Go.RowKit
set_option linter.unusedVariables false
set_option linter.unusedSimpArgs false
section
variable {P : Program} {O X : Objs} {n n2 : Nat} {f : FuncId} {gs : List G} {r r3 : G} {rows : List (Option GObj)}
theorem GTo.freeze (h : GTo P f gs O n r (Zo O n rows) n2) (hw : Und O n → wk (Zo O n rows) O n r r3) : GTo P f gs O n r3 O n := by
 refine ⟨h.1, fun w m vs hM hr => ?_⟩
 have hU : Und O n := ⟨hM.fresh, fun i o hi => by obtain ⟨vs, hv, _⟩ := hM.obj i o hi; exact Jp _ _ hv⟩
 have hL : LessO (Zo O n rows) O n := Zpe hU.fresh (OutLe.refl hU (Nat.le_refl _))
 refine (h.2 w m vs hM hr).mono fun e w' ⟨v, g, O', n', m', h1, h2, h3, h4, h5, h6, h7⟩ => ?_
 subst h5 h6 h7
 exact ⟨v, r3, O, n, m', h1, h2.weak hL, h3.weak hL (Nat.le_refl _), Zgu h2 hL _ v h4 _ (hw hU), rfl, rfl, rfl⟩
end
theorem Zkn (ρ : Nat → Nat) : ∀ a b : List G, G.rens ρ (a ++ b) = G.rens ρ a ++ G.rens ρ b
 | [], b => by simp [G.rens]
 | x :: a, b => by simp [G.rens, Zkn ρ a b]
theorem Zog (X : Objs) (n : Nat) (x0 x1 x2 x3 x4 x5 : Option GObj) (l' : List (Option GObj)) : Zo (Zo X n [x0, x1, x2, x3, x4, x5]) (n + 6) l' = Zo X n (x0 :: x1 :: x2 :: x3 :: x4 :: x5 :: l') := Jq X n [x0, x1, x2, x3, x4, x5] l' rfl
theorem Zoh (X : Objs) (n : Nat) (x0 x1 x2 x3 x4 x5 x6 : Option GObj) (l' : List (Option GObj)) : Zo (Zo X n [x0, x1, x2, x3, x4, x5, x6]) (n + 7) l' = Zo X n (x0 :: x1 :: x2 :: x3 :: x4 :: x5 :: x6 :: l') := Jq X n [x0, x1, x2, x3, x4, x5, x6] l' rfl
theorem Zoi (X : Objs) (n : Nat) (x0 x1 x2 x3 x4 x5 x6 x7 : Option GObj) (l' : List (Option GObj)) : Zo (Zo X n [x0, x1, x2, x3, x4, x5, x6, x7]) (n + 8) l' = Zo X n (x0 :: x1 :: x2 :: x3 :: x4 :: x5 :: x6 :: x7 :: l') := Jq X n [x0, x1, x2, x3, x4, x5, x6, x7] l' rfl
theorem Zoj (X : Objs) (n : Nat) (x0 x1 x2 x3 x4 x5 x6 x7 x8 : Option GObj) (l' : List (Option GObj)) : Zo (Zo X n [x0, x1, x2, x3, x4, x5, x6, x7, x8]) (n + 9) l' = Zo X n (x0 :: x1 :: x2 :: x3 :: x4 :: x5 :: x6 :: x7 :: x8 :: l') := Jq X n [x0, x1, x2, x3, x4, x5, x6, x7, x8] l' rfl
theorem Zlh (X : Objs) (n : Nat) (x0 x1 x2 x3 x4 x5 x6 x7 x8 x9 : Option GObj) (l' : List (Option GObj)) : Zo (Zo X n [x0, x1, x2, x3, x4, x5, x6, x7, x8, x9]) (n + 10) l' = Zo X n (x0 :: x1 :: x2 :: x3 :: x4 :: x5 :: x6 :: x7 :: x8 :: x9 :: l') := Jq X n [x0, x1, x2, x3, x4, x5, x6, x7, x8, x9] l' rfl
theorem Zli (X : Objs) (n : Nat) (x0 x1 x2 x3 x4 x5 x6 x7 x8 x9 x10 : Option GObj) (l' : List (Option GObj)) : Zo (Zo X n [x0, x1, x2, x3, x4, x5, x6, x7, x8, x9, x10]) (n + 11) l' = Zo X n (x0 :: x1 :: x2 :: x3 :: x4 :: x5 :: x6 :: x7 :: x8 :: x9 :: x10 :: l') := Jq X n [x0, x1, x2, x3, x4, x5, x6, x7, x8, x9, x10] l' rfl
theorem Zlj (X : Objs) (n : Nat) (x0 x1 x2 x3 x4 x5 x6 x7 x8 x9 x10 x11 : Option GObj) (l' : List (Option GObj)) : Zo (Zo X n [x0, x1, x2, x3, x4, x5, x6, x7, x8, x9, x10, x11]) (n + 12) l' = Zo X n (x0 :: x1 :: x2 :: x3 :: x4 :: x5 :: x6 :: x7 :: x8 :: x9 :: x10 :: x11 :: l') := Jq X n [x0, x1, x2, x3, x4, x5, x6, x7, x8, x9, x10, x11] l' rfl
theorem Zlk (X : Objs) (n : Nat) (x0 x1 x2 x3 x4 x5 x6 x7 x8 x9 x10 x11 x12 : Option GObj) (l' : List (Option GObj)) : Zo (Zo X n [x0, x1, x2, x3, x4, x5, x6, x7, x8, x9, x10, x11, x12]) (n + 13) l' = Zo X n (x0 :: x1 :: x2 :: x3 :: x4 :: x5 :: x6 :: x7 :: x8 :: x9 :: x10 :: x11 :: x12 :: l') := Jq X n [x0, x1, x2, x3, x4, x5, x6, x7, x8, x9, x10, x11, x12] l' rfl
theorem Zll (X : Objs) (n : Nat) (x0 x1 x2 x3 x4 x5 x6 x7 x8 x9 x10 x11 x12 x13 : Option GObj) (l' : List (Option GObj)) : Zo (Zo X n [x0, x1, x2, x3, x4, x5, x6, x7, x8, x9, x10, x11, x12, x13]) (n + 14) l' = Zo X n (x0 :: x1 :: x2 :: x3 :: x4 :: x5 :: x6 :: x7 :: x8 :: x9 :: x10 :: x11 :: x12 :: x13 :: l') := Jq X n [x0, x1, x2, x3, x4, x5, x6, x7, x8, x9, x10, x11, x12, x13] l' rfl
theorem Zlm (X : Objs) (n : Nat) (x0 x1 x2 x3 x4 x5 x6 x7 x8 x9 x10 x11 x12 x13 x14 : Option GObj) (l' : List (Option GObj)) : Zo (Zo X n [x0, x1, x2, x3, x4, x5, x6, x7, x8, x9, x10, x11, x12, x13, x14]) (n + 15) l' = Zo X n (x0 :: x1 :: x2 :: x3 :: x4 :: x5 :: x6 :: x7 :: x8 :: x9 :: x10 :: x11 :: x12 :: x13 :: x14 :: l') := Jq X n [x0, x1, x2, x3, x4, x5, x6, x7, x8, x9, x10, x11, x12, x13, x14] l' rfl
theorem Zln (X : Objs) (n : Nat) (x0 x1 x2 x3 x4 x5 x6 x7 x8 x9 x10 x11 x12 x13 x14 x15 : Option GObj) (l' : List (Option GObj)) : Zo (Zo X n [x0, x1, x2, x3, x4, x5, x6, x7, x8, x9, x10, x11, x12, x13, x14, x15]) (n + 16) l' = Zo X n (x0 :: x1 :: x2 :: x3 :: x4 :: x5 :: x6 :: x7 :: x8 :: x9 :: x10 :: x11 :: x12 :: x13 :: x14 :: x15 :: l') := Jq X n [x0, x1, x2, x3, x4, x5, x6, x7, x8, x9, x10, x11, x12, x13, x14, x15] l' rfl
end Go.Proofs.Ytgffgbdnbjbmoaa
