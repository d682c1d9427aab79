/- Part NE of this seat's mirrors: functions of the seat's program, and the plain functions that they are; each theorem bears its own conditions. -/
import Derived.Test.YtkdanjfmobibbaaTy
import Derived.Test.YtkdanjfmobibbaaND
namespace Go.Proofs.Ytkdanjfmobibbaa
open Go.RowKit
set_option linter.unusedVariables false
set_option linter.unusedSimpArgs false
set_option maxRecDepth 100000
set_option maxHeartbeats 4000000
theorem pu_eI_u64 : ∀ x, G.pures ((eI .u64) x) = true := fun x => by simp [eI, eB, eS, eL, eP, G.pures, G.pure, pures_fl, pure_gP]

theorem wkl_eI_u64 {O O' : Objs} {n : Nat} (xs : List Int) : wkl O O' n (fl (eI .u64) xs) (fl (eI .u64) xs) := wkl_pure (pures_fl pu_eI_u64 xs)

theorem wka_eI_u64 {O O' : Objs} {n : Nat} (xs : List Int) (b b' : List G) : wkl O O' n (fl (eI .u64) xs ++ b) (fl (eI .u64) xs ++ b') = wkl O O' n b b' := wkl_same b b' _ (pures_fl pu_eI_u64 xs)

theorem len_eI_u64 (xs : List Int) : (fl (eI .u64) xs).length = xs.length * 1 := fl_length (f := (eI .u64)) (k := 1) (fun _ => rfl) xs

theorem one_eI_u64 (xs : List Int) : (fl (eI .u64) xs).all G.one = true := all_one_fl (fun x => by simp [eI, eB, eS, eL, eP, one_gP, G.one, Value.oneCell']) xs

theorem wkp_eI_u64 {O O' : Objs} {n : Nat} (x : Option Int) : wk O O' n (gP (eI .u64) x) (gP (eI .u64) x) = True := wk_gP pu_eI_u64 x

theorem undp_eI_u64 {k : Nat} (x : Option Int) : (gP (eI .u64) x).under k = true := under_gP pu_eI_u64 k x

theorem rens_eI_u64 {ρ : Nat → Nat} (xs : List Int) : G.rens ρ (fl (eI .u64) xs) = fl (eI .u64) xs := rens_pure ρ _ (pures_fl pu_eI_u64 xs)

theorem renp_eI_u64 {ρ : Nat → Nat} (x : Option Int) : (gP (eI .u64) x).ren ρ = gP (eI .u64) x := ren_pure ρ _ (pure_gP pu_eI_u64 x)

theorem und_eI_u64 {k : Nat} (xs : List Int) : G.unders k (fl (eI .u64) xs) = true := pures_unders _ _ (pures_fl pu_eI_u64 xs)

theorem pu_eI_i64 : ∀ x, G.pures ((eI .i64) x) = true := fun x => by simp [eI, eB, eS, eL, eP, G.pures, G.pure, pures_fl, pure_gP, pu_eI_u64]

theorem wkl_eI_i64 {O O' : Objs} {n : Nat} (xs : List Int) : wkl O O' n (fl (eI .i64) xs) (fl (eI .i64) xs) := wkl_pure (pures_fl pu_eI_i64 xs)

theorem wka_eI_i64 {O O' : Objs} {n : Nat} (xs : List Int) (b b' : List G) : wkl O O' n (fl (eI .i64) xs ++ b) (fl (eI .i64) xs ++ b') = wkl O O' n b b' := wkl_same b b' _ (pures_fl pu_eI_i64 xs)

theorem len_eI_i64 (xs : List Int) : (fl (eI .i64) xs).length = xs.length * 1 := fl_length (f := (eI .i64)) (k := 1) (fun _ => rfl) xs

theorem one_eI_i64 (xs : List Int) : (fl (eI .i64) xs).all G.one = true := all_one_fl (fun x => by simp [eI, eB, eS, eL, eP, one_gP, G.one, Value.oneCell']) xs

theorem wkp_eI_i64 {O O' : Objs} {n : Nat} (x : Option Int) : wk O O' n (gP (eI .i64) x) (gP (eI .i64) x) = True := wk_gP pu_eI_i64 x

theorem undp_eI_i64 {k : Nat} (x : Option Int) : (gP (eI .i64) x).under k = true := under_gP pu_eI_i64 k x

theorem rens_eI_i64 {ρ : Nat → Nat} (xs : List Int) : G.rens ρ (fl (eI .i64) xs) = fl (eI .i64) xs := rens_pure ρ _ (pures_fl pu_eI_i64 xs)

theorem renp_eI_i64 {ρ : Nat → Nat} (x : Option Int) : (gP (eI .i64) x).ren ρ = gP (eI .i64) x := ren_pure ρ _ (pure_gP pu_eI_i64 x)

theorem und_eI_i64 {k : Nat} (xs : List Int) : G.unders k (fl (eI .i64) xs) = true := pures_unders _ _ (pures_fl pu_eI_i64 xs)

theorem pu_eL_eI_u64 : ∀ x, G.pures ((eL (eI .u64)) x) = true := fun x => by simp [eI, eB, eS, eL, eP, G.pures, G.pure, pures_fl, pure_gP, pu_eI_u64, pu_eI_i64]

theorem wkl_eL_eI_u64 {O O' : Objs} {n : Nat} (xs : List (List Int)) : wkl O O' n (fl (eL (eI .u64)) xs) (fl (eL (eI .u64)) xs) := wkl_pure (pures_fl pu_eL_eI_u64 xs)

theorem wka_eL_eI_u64 {O O' : Objs} {n : Nat} (xs : List (List Int)) (b b' : List G) : wkl O O' n (fl (eL (eI .u64)) xs ++ b) (fl (eL (eI .u64)) xs ++ b') = wkl O O' n b b' := wkl_same b b' _ (pures_fl pu_eL_eI_u64 xs)

theorem len_eL_eI_u64 (xs : List (List Int)) : (fl (eL (eI .u64)) xs).length = xs.length * 1 := fl_length (f := (eL (eI .u64))) (k := 1) (fun _ => rfl) xs

theorem one_eL_eI_u64 (xs : List (List Int)) : (fl (eL (eI .u64)) xs).all G.one = true := all_one_fl (fun x => by simp [eI, eB, eS, eL, eP, one_gP, G.one, Value.oneCell']) xs

theorem wkp_eL_eI_u64 {O O' : Objs} {n : Nat} (x : Option (List Int)) : wk O O' n (gP (eL (eI .u64)) x) (gP (eL (eI .u64)) x) = True := wk_gP pu_eL_eI_u64 x

theorem undp_eL_eI_u64 {k : Nat} (x : Option (List Int)) : (gP (eL (eI .u64)) x).under k = true := under_gP pu_eL_eI_u64 k x

theorem rens_eL_eI_u64 {ρ : Nat → Nat} (xs : List (List Int)) : G.rens ρ (fl (eL (eI .u64)) xs) = fl (eL (eI .u64)) xs := rens_pure ρ _ (pures_fl pu_eL_eI_u64 xs)

theorem renp_eL_eI_u64 {ρ : Nat → Nat} (x : Option (List Int)) : (gP (eL (eI .u64)) x).ren ρ = gP (eL (eI .u64)) x := ren_pure ρ _ (pure_gP pu_eL_eI_u64 x)

theorem und_eL_eI_u64 {k : Nat} (xs : List (List Int)) : G.unders k (fl (eL (eI .u64)) xs) = true := pures_unders _ _ (pures_fl pu_eL_eI_u64 xs)

def e_S_slots_slot (x : S_slots_slot) : List G := [.val (.bool x.full), .sl x.words.length (fl (eI .u64) x.words)]

def e_S_slots_Slots (x : S_slots_Slots) : List G := fl e_S_slots_slot x.all.1

theorem pu_e_S_slots_slot : ∀ x, G.pures (e_S_slots_slot x) = true := fun x => by simp [eI, eB, eS, eL, eP, G.pures, G.pure, pures_fl, pure_gP, e_S_slots_slot, pu_eI_u64, pu_eI_i64, pu_eL_eI_u64]

theorem wkl_e_S_slots_slot {O O' : Objs} {n : Nat} (xs : List S_slots_slot) : wkl O O' n (fl e_S_slots_slot xs) (fl e_S_slots_slot xs) := wkl_pure (pures_fl pu_e_S_slots_slot xs)

theorem wka_e_S_slots_slot {O O' : Objs} {n : Nat} (xs : List S_slots_slot) (b b' : List G) : wkl O O' n (fl e_S_slots_slot xs ++ b) (fl e_S_slots_slot xs ++ b') = wkl O O' n b b' := wkl_same b b' _ (pures_fl pu_e_S_slots_slot xs)

theorem len_e_S_slots_slot (xs : List S_slots_slot) : (fl e_S_slots_slot xs).length = xs.length * 2 := fl_length (f := e_S_slots_slot) (k := 2) (fun _ => rfl) xs

theorem one_e_S_slots_slot (xs : List S_slots_slot) : (fl e_S_slots_slot xs).all G.one = true := all_one_fl (fun x => by simp [eI, eB, eS, eL, eP, one_gP, G.one, Value.oneCell', e_S_slots_slot]) xs

theorem wkp_e_S_slots_slot {O O' : Objs} {n : Nat} (x : Option S_slots_slot) : wk O O' n (gP e_S_slots_slot x) (gP e_S_slots_slot x) = True := wk_gP pu_e_S_slots_slot x

theorem undp_e_S_slots_slot {k : Nat} (x : Option S_slots_slot) : (gP e_S_slots_slot x).under k = true := under_gP pu_e_S_slots_slot k x

theorem rens_e_S_slots_slot {ρ : Nat → Nat} (xs : List S_slots_slot) : G.rens ρ (fl e_S_slots_slot xs) = fl e_S_slots_slot xs := rens_pure ρ _ (pures_fl pu_e_S_slots_slot xs)

theorem renp_e_S_slots_slot {ρ : Nat → Nat} (x : Option S_slots_slot) : (gP e_S_slots_slot x).ren ρ = gP e_S_slots_slot x := ren_pure ρ _ (pure_gP pu_e_S_slots_slot x)

theorem und_e_S_slots_slot {k : Nat} (xs : List S_slots_slot) : G.unders k (fl e_S_slots_slot xs) = true := pures_unders _ _ (pures_fl pu_e_S_slots_slot xs)

theorem pu_e_S_slots_Slots : ∀ x, G.pures (e_S_slots_Slots x) = true := fun x => by simp [eI, eB, eS, eL, eP, G.pures, G.pure, pures_fl, pure_gP, e_S_slots_Slots, pu_eI_u64, pu_eI_i64, pu_eL_eI_u64, pu_e_S_slots_slot]

theorem wkl_e_S_slots_Slots {O O' : Objs} {n : Nat} (xs : List S_slots_Slots) : wkl O O' n (fl e_S_slots_Slots xs) (fl e_S_slots_Slots xs) := wkl_pure (pures_fl pu_e_S_slots_Slots xs)

theorem wka_e_S_slots_Slots {O O' : Objs} {n : Nat} (xs : List S_slots_Slots) (b b' : List G) : wkl O O' n (fl e_S_slots_Slots xs ++ b) (fl e_S_slots_Slots xs ++ b') = wkl O O' n b b' := wkl_same b b' _ (pures_fl pu_e_S_slots_Slots xs)

theorem len_e_S_slots_Slots (xs : List S_slots_Slots) : (fl e_S_slots_Slots xs).length = xs.length * 32 := fl_length (f := e_S_slots_Slots) (k := 32) (fun x => by simp only [e_S_slots_Slots, List.length_append, List.length_cons, List.length_nil, Arr.len, Nat.reduceMul, Nat.reduceAdd, len_eI_u64, len_eI_i64, len_eL_eI_u64, len_e_S_slots_slot]) xs

theorem one_e_S_slots_Slots (xs : List S_slots_Slots) : (fl e_S_slots_Slots xs).all G.one = true := all_one_fl (fun x => by simp only [e_S_slots_Slots, List.all_append, one_eI_u64, one_eI_i64, one_eL_eI_u64, one_e_S_slots_slot, Bool.and_self]) xs

theorem wkp_e_S_slots_Slots {O O' : Objs} {n : Nat} (x : Option S_slots_Slots) : wk O O' n (gP e_S_slots_Slots x) (gP e_S_slots_Slots x) = True := wk_gP pu_e_S_slots_Slots x

theorem undp_e_S_slots_Slots {k : Nat} (x : Option S_slots_Slots) : (gP e_S_slots_Slots x).under k = true := under_gP pu_e_S_slots_Slots k x

theorem rens_e_S_slots_Slots {ρ : Nat → Nat} (xs : List S_slots_Slots) : G.rens ρ (fl e_S_slots_Slots xs) = fl e_S_slots_Slots xs := rens_pure ρ _ (pures_fl pu_e_S_slots_Slots xs)

theorem renp_e_S_slots_Slots {ρ : Nat → Nat} (x : Option S_slots_Slots) : (gP e_S_slots_Slots x).ren ρ = gP e_S_slots_Slots x := ren_pure ρ _ (pure_gP pu_e_S_slots_Slots x)

theorem und_e_S_slots_Slots {k : Nat} (xs : List S_slots_Slots) : G.unders k (fl e_S_slots_Slots xs) = true := pures_unders _ _ (pures_fl pu_e_S_slots_Slots xs)

def e_S_centolaw35_Deed (x : S_centolaw35_Deed) : List G := [.val (.int .i64 x.Kind), .val (.int .i64 x.I), .sl x.At.length (fl (eI .i64) x.At), .sl x.L.length (fl (eL (eI .u64)) x.L)]

end Go.Proofs.Ytkdanjfmobibbaa
