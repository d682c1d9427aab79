/- Part H22 of the ghost memory: lemmas and contracts used by the proofs of this seat's laws; each theorem bears its own conditions. -/
import Derived.Test.YtpggbianhdebmaaH21
import Derived.WalkKit
import Derived.WalkSpells
import Derived.WalkLawsBesides
import Derived.Lib.Hide
import Derived.BigQuiet
import Derived.StillTailTactics
import Derived.Deep.RegionHeld3
import Derived.Deep.AppendLies
import Derived.Laws.CopyOwn
import Derived.Deep.DeepCutAuto
import Derived.Deep.QuietTactic
import Derived.Maps.AppendAt
import Derived.Great.BuildSlice
import Derived.Laws.StructEq
import Derived.ChangeKeysEq
import Derived.IntWalk
import Derived.Lib.AppendZeros
import Derived.Lib.AppendZerosOnto
import Derived.ProofKit
import Derived.OpenShut
import Derived.SizedLaws
import Derived.Deep.Slices
namespace Go.Proofs.Ytpggbianhdebmaa
open Go.RowKit
set_option linter.unusedVariables false
set_option linter.unusedSimpArgs false
section
variable {P : Program} {O X : Objs} {n n2 : Nat} {f : FuncId} {gs : List G} {r r3 : G} {rows : List (Option GObj)}
/-- a call's own rows, told as what stays -/
theorem GTo.freeze (h : GTo P f gs O n r (Loc O n rows) n2) (hw : Und O n → wk (Loc O n rows) O n r r3) : GTo P f gs O n r3 O n := by
  refine ⟨h.1, fun w m vs hM hr => ?_⟩
  have hU : Und O n := ⟨hM.fresh, fun i o hi => by obtain ⟨vs, hv, _⟩ := hM.obj i o hi; exact unders_of _ _ hv⟩
  have hL : LessO (Loc O n rows) O n := less_out hU.fresh (OutLe.refl hU (Nat.le_refl _))
  refine (h.2 w m vs hM hr).mono fun e w' ⟨v, g, O', n', m', h1, h2, h3, h4, h5, h6, h7⟩ => ?_
  subst h5 h6 h7
  exact ⟨v, r3, O, n, m', h1, h2.weak hL, h3.weak hL (Nat.le_refl _), wk_sound h2 hL _ v h4 _ (hw hU), rfl, rfl, rfl⟩
end
section
variable {α : Type} {xs : List α} {i : Int} {f : α → List G} {x : α} {sz : Nat} {cs : List G} {O O' : Objs} {n : Nat}
/-- a kid put in as it is told, nothing for empty lists -/
def flput (f : α → List G) (xs : List α) (i : Nat) (cs : List G) : List G := fl f (xs.take i) ++ (cs ++ fl f (xs.drop (i + 1)))
theorem gplace_flput (hf : ∀ x, (f x).length = sz) (hx : getI xs i = some x) (hc : cs.length = sz) : gplace (fl f xs) cs (i.toNat * sz) = some (flput f xs i.toNat cs) := by
  have hi := getI_nat hx
  have hl : (i.toNat + 1) * sz ≤ xs.length * sz := Nat.mul_le_mul_right _ hi
  rw [Nat.succ_mul] at hl
  unfold gplace flput
  rw [if_pos (by rw [fl_length hf]; omega), hc, fl_take hf, show i.toNat * sz + sz = (i.toNat + 1) * sz from by rw [Nat.succ_mul], fl_drop hf, List.append_assoc]
theorem wkl_flput (hp : ∀ x, G.pures (f x) = true) {y : α} (hx : getI xs i = some y) (h : wkl O O' n cs (f x)) : wkl O O' n (flput f xs i.toNat cs) (fl f (setI xs i x)) = True := by
  have hi := getI_nat hx
  refine eq_true ?_
  unfold flput setI
  rw [List.set_eq_take_append_cons_drop, if_pos hi, fl_append, fl_cons]
  exact wkl_app _ _ _ _ (wkl_pure (pures_fl hp _)) (wkl_app _ _ _ _ h (wkl_pure (pures_fl hp _)))
end
section
variable {α : Type} {xs : List α} {f : α → List G} {sz : Nat} {ph cs : List G}
/-- the last kid, as it is put in where something stood for it -/
theorem gplace_last (hf : ∀ x, (f x).length = sz) (hp : ph.length = sz) (hc : cs.length = sz) : gplace (fl f xs ++ ph) cs (xs.length * sz) = some (fl f xs ++ cs) := by
  unfold gplace
  have hl := fl_length hf xs
  rw [if_pos (by rw [List.length_append, hl]; omega), List.take_left' hl, List.drop_eq_nil_of_le (by rw [List.length_append, hl]; omega), List.append_nil]
end
theorem rens_app (ρ : Nat → Nat) : ∀ a b : List G, G.rens ρ (a ++ b) = G.rens ρ a ++ G.rens ρ b
  | [], b => by simp [G.rens]
  | x :: a, b => by simp [G.rens, rens_app ρ a b]
theorem Loc_cat6 (X : Objs) (n : Nat) (x0 x1 x2 x3 x4 x5 : Option GObj) (l' : List (Option GObj)) : Loc (Loc X n [x0, x1, x2, x3, x4, x5]) (n + 6) l' = Loc X n (x0 :: x1 :: x2 :: x3 :: x4 :: x5 :: l') := Loc_cat X n [x0, x1, x2, x3, x4, x5] l' rfl
theorem Loc_cat7 (X : Objs) (n : Nat) (x0 x1 x2 x3 x4 x5 x6 : Option GObj) (l' : List (Option GObj)) : Loc (Loc X n [x0, x1, x2, x3, x4, x5, x6]) (n + 7) l' = Loc X n (x0 :: x1 :: x2 :: x3 :: x4 :: x5 :: x6 :: l') := Loc_cat X n [x0, x1, x2, x3, x4, x5, x6] l' rfl
theorem Loc_cat8 (X : Objs) (n : Nat) (x0 x1 x2 x3 x4 x5 x6 x7 : Option GObj) (l' : List (Option GObj)) : Loc (Loc X n [x0, x1, x2, x3, x4, x5, x6, x7]) (n + 8) l' = Loc X n (x0 :: x1 :: x2 :: x3 :: x4 :: x5 :: x6 :: x7 :: l') := Loc_cat X n [x0, x1, x2, x3, x4, x5, x6, x7] l' rfl
theorem Loc_cat9 (X : Objs) (n : Nat) (x0 x1 x2 x3 x4 x5 x6 x7 x8 : Option GObj) (l' : List (Option GObj)) : Loc (Loc X n [x0, x1, x2, x3, x4, x5, x6, x7, x8]) (n + 9) l' = Loc X n (x0 :: x1 :: x2 :: x3 :: x4 :: x5 :: x6 :: x7 :: x8 :: l') := Loc_cat X n [x0, x1, x2, x3, x4, x5, x6, x7, x8] l' rfl
theorem Loc_cat10 (X : Objs) (n : Nat) (x0 x1 x2 x3 x4 x5 x6 x7 x8 x9 : Option GObj) (l' : List (Option GObj)) : Loc (Loc X n [x0, x1, x2, x3, x4, x5, x6, x7, x8, x9]) (n + 10) l' = Loc X n (x0 :: x1 :: x2 :: x3 :: x4 :: x5 :: x6 :: x7 :: x8 :: x9 :: l') := Loc_cat X n [x0, x1, x2, x3, x4, x5, x6, x7, x8, x9] l' rfl
theorem Loc_cat11 (X : Objs) (n : Nat) (x0 x1 x2 x3 x4 x5 x6 x7 x8 x9 x10 : Option GObj) (l' : List (Option GObj)) : Loc (Loc X n [x0, x1, x2, x3, x4, x5, x6, x7, x8, x9, x10]) (n + 11) l' = Loc X n (x0 :: x1 :: x2 :: x3 :: x4 :: x5 :: x6 :: x7 :: x8 :: x9 :: x10 :: l') := Loc_cat X n [x0, x1, x2, x3, x4, x5, x6, x7, x8, x9, x10] l' rfl
theorem Loc_cat12 (X : Objs) (n : Nat) (x0 x1 x2 x3 x4 x5 x6 x7 x8 x9 x10 x11 : Option GObj) (l' : List (Option GObj)) : Loc (Loc X n [x0, x1, x2, x3, x4, x5, x6, x7, x8, x9, x10, x11]) (n + 12) l' = Loc X n (x0 :: x1 :: x2 :: x3 :: x4 :: x5 :: x6 :: x7 :: x8 :: x9 :: x10 :: x11 :: l') := Loc_cat X n [x0, x1, x2, x3, x4, x5, x6, x7, x8, x9, x10, x11] l' rfl
theorem Loc_cat13 (X : Objs) (n : Nat) (x0 x1 x2 x3 x4 x5 x6 x7 x8 x9 x10 x11 x12 : Option GObj) (l' : List (Option GObj)) : Loc (Loc X n [x0, x1, x2, x3, x4, x5, x6, x7, x8, x9, x10, x11, x12]) (n + 13) l' = Loc X n (x0 :: x1 :: x2 :: x3 :: x4 :: x5 :: x6 :: x7 :: x8 :: x9 :: x10 :: x11 :: x12 :: l') := Loc_cat X n [x0, x1, x2, x3, x4, x5, x6, x7, x8, x9, x10, x11, x12] l' rfl
theorem Loc_cat14 (X : Objs) (n : Nat) (x0 x1 x2 x3 x4 x5 x6 x7 x8 x9 x10 x11 x12 x13 : Option GObj) (l' : List (Option GObj)) : Loc (Loc X n [x0, x1, x2, x3, x4, x5, x6, x7, x8, x9, x10, x11, x12, x13]) (n + 14) l' = Loc X n (x0 :: x1 :: x2 :: x3 :: x4 :: x5 :: x6 :: x7 :: x8 :: x9 :: x10 :: x11 :: x12 :: x13 :: l') := Loc_cat X n [x0, x1, x2, x3, x4, x5, x6, x7, x8, x9, x10, x11, x12, x13] l' rfl
theorem Loc_cat15 (X : Objs) (n : Nat) (x0 x1 x2 x3 x4 x5 x6 x7 x8 x9 x10 x11 x12 x13 x14 : Option GObj) (l' : List (Option GObj)) : Loc (Loc X n [x0, x1, x2, x3, x4, x5, x6, x7, x8, x9, x10, x11, x12, x13, x14]) (n + 15) l' = Loc X n (x0 :: x1 :: x2 :: x3 :: x4 :: x5 :: x6 :: x7 :: x8 :: x9 :: x10 :: x11 :: x12 :: x13 :: x14 :: l') := Loc_cat X n [x0, x1, x2, x3, x4, x5, x6, x7, x8, x9, x10, x11, x12, x13, x14] l' rfl
theorem Loc_cat16 (X : Objs) (n : Nat) (x0 x1 x2 x3 x4 x5 x6 x7 x8 x9 x10 x11 x12 x13 x14 x15 : Option GObj) (l' : List (Option GObj)) : Loc (Loc X n [x0, x1, x2, x3, x4, x5, x6, x7, x8, x9, x10, x11, x12, x13, x14, x15]) (n + 16) l' = Loc X n (x0 :: x1 :: x2 :: x3 :: x4 :: x5 :: x6 :: x7 :: x8 :: x9 :: x10 :: x11 :: x12 :: x13 :: x14 :: x15 :: l') := Loc_cat X n [x0, x1, x2, x3, x4, x5, x6, x7, x8, x9, x10, x11, x12, x13, x14, x15] l' rfl
theorem Loc_cat17 (X : Objs) (n : Nat) (x0 x1 x2 x3 x4 x5 x6 x7 x8 x9 x10 x11 x12 x13 x14 x15 x16 : Option GObj) (l' : List (Option GObj)) : Loc (Loc X n [x0, x1, x2, x3, x4, x5, x6, x7, x8, x9, x10, x11, x12, x13, x14, x15, x16]) (n + 17) l' = Loc X n (x0 :: x1 :: x2 :: x3 :: x4 :: x5 :: x6 :: x7 :: x8 :: x9 :: x10 :: x11 :: x12 :: x13 :: x14 :: x15 :: x16 :: l') := Loc_cat X n [x0, x1, x2, x3, x4, x5, x6, x7, x8, x9, x10, x11, x12, x13, x14, x15, x16] l' rfl
theorem Loc_cat18 (X : Objs) (n : Nat) (x0 x1 x2 x3 x4 x5 x6 x7 x8 x9 x10 x11 x12 x13 x14 x15 x16 x17 : Option GObj) (l' : List (Option GObj)) : Loc (Loc X n [x0, x1, x2, x3, x4, x5, x6, x7, x8, x9, x10, x11, x12, x13, x14, x15, x16, x17]) (n + 18) l' = Loc X n (x0 :: x1 :: x2 :: x3 :: x4 :: x5 :: x6 :: x7 :: x8 :: x9 :: x10 :: x11 :: x12 :: x13 :: x14 :: x15 :: x16 :: x17 :: l') := Loc_cat X n [x0, x1, x2, x3, x4, x5, x6, x7, x8, x9, x10, x11, x12, x13, x14, x15, x16, x17] l' rfl
theorem Loc_cat19 (X : Objs) (n : Nat) (x0 x1 x2 x3 x4 x5 x6 x7 x8 x9 x10 x11 x12 x13 x14 x15 x16 x17 x18 : Option GObj) (l' : List (Option GObj)) : Loc (Loc X n [x0, x1, x2, x3, x4, x5, x6, x7, x8, x9, x10, x11, x12, x13, x14, x15, x16, x17, x18]) (n + 19) l' = Loc X n (x0 :: x1 :: x2 :: x3 :: x4 :: x5 :: x6 :: x7 :: x8 :: x9 :: x10 :: x11 :: x12 :: x13 :: x14 :: x15 :: x16 :: x17 :: x18 :: l') := Loc_cat X n [x0, x1, x2, x3, x4, x5, x6, x7, x8, x9, x10, x11, x12, x13, x14, x15, x16, x17, x18] l' rfl
theorem Loc_cat20 (X : Objs) (n : Nat) (x0 x1 x2 x3 x4 x5 x6 x7 x8 x9 x10 x11 x12 x13 x14 x15 x16 x17 x18 x19 : Option GObj) (l' : List (Option GObj)) : Loc (Loc X n [x0, x1, x2, x3, x4, x5, x6, x7, x8, x9, x10, x11, x12, x13, x14, x15, x16, x17, x18, x19]) (n + 20) l' = Loc X n (x0 :: x1 :: x2 :: x3 :: x4 :: x5 :: x6 :: x7 :: x8 :: x9 :: x10 :: x11 :: x12 :: x13 :: x14 :: x15 :: x16 :: x17 :: x18 :: x19 :: l') := Loc_cat X n [x0, x1, x2, x3, x4, x5, x6, x7, x8, x9, x10, x11, x12, x13, x14, x15, x16, x17, x18, x19] l' rfl
theorem Loc_cat21 (X : Objs) (n : Nat) (x0 x1 x2 x3 x4 x5 x6 x7 x8 x9 x10 x11 x12 x13 x14 x15 x16 x17 x18 x19 x20 : Option GObj) (l' : List (Option GObj)) : Loc (Loc X n [x0, x1, x2, x3, x4, x5, x6, x7, x8, x9, x10, x11, x12, x13, x14, x15, x16, x17, x18, x19, x20]) (n + 21) l' = Loc X n (x0 :: x1 :: x2 :: x3 :: x4 :: x5 :: x6 :: x7 :: x8 :: x9 :: x10 :: x11 :: x12 :: x13 :: x14 :: x15 :: x16 :: x17 :: x18 :: x19 :: x20 :: l') := Loc_cat X n [x0, x1, x2, x3, x4, x5, x6, x7, x8, x9, x10, x11, x12, x13, x14, x15, x16, x17, x18, x19, x20] l' rfl
theorem Loc_cat22 (X : Objs) (n : Nat) (x0 x1 x2 x3 x4 x5 x6 x7 x8 x9 x10 x11 x12 x13 x14 x15 x16 x17 x18 x19 x20 x21 : Option GObj) (l' : List (Option GObj)) : Loc (Loc X n [x0, x1, x2, x3, x4, x5, x6, x7, x8, x9, x10, x11, x12, x13, x14, x15, x16, x17, x18, x19, x20, x21]) (n + 22) l' = Loc X n (x0 :: x1 :: x2 :: x3 :: x4 :: x5 :: x6 :: x7 :: x8 :: x9 :: x10 :: x11 :: x12 :: x13 :: x14 :: x15 :: x16 :: x17 :: x18 :: x19 :: x20 :: x21 :: l') := Loc_cat X n [x0, x1, x2, x3, x4, x5, x6, x7, x8, x9, x10, x11, x12, x13, x14, x15, x16, x17, x18, x19, x20, x21] l' rfl

end Go.Proofs.Ytpggbianhdebmaa
