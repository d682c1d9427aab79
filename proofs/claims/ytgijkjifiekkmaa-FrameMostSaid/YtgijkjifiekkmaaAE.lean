/- Part AE of this seat's mirrors: functions of the seat's program, and the plain functions that they are; each theorem bears its own conditions. -/
import Derived.Test.YtgijkjifiekkmaaTy
import Derived.Test.YtgijkjifiekkmaaAD
namespace Go.Proofs.Ytgijkjifiekkmaa
open Go.RowKit
set_option linter.unusedVariables false
set_option linter.unusedSimpArgs false
set_option maxRecDepth 100000
theorem pu_eI_u64 : ∀ x, G.pures ((eI .u64) x) = true := fun x => by simp [eI, eB, eS, eL, G.pures, G.pure, pures_fl]

theorem wkl_eI_u64 {O O' : Objs} {n : Nat} (xs : List Int) : wkl O O' n (fl (eI .u64) xs) (fl (eI .u64) xs) := wkl_pure (pures_fl pu_eI_u64 xs)

theorem wka_eI_u64 {O O' : Objs} {n : Nat} (xs : List Int) (b b' : List G) : wkl O O' n (fl (eI .u64) xs ++ b) (fl (eI .u64) xs ++ b') = wkl O O' n b b' := wkl_same b b' _ (pures_fl pu_eI_u64 xs)

theorem len_eI_u64 (xs : List Int) : (fl (eI .u64) xs).length = xs.length * 1 := fl_length (f := (eI .u64)) (k := 1) (fun _ => rfl) xs

theorem one_eI_u64 (xs : List Int) : (fl (eI .u64) xs).all G.one = true := all_one_fl (fun x => by simp [eI, eB, eS, eL, G.one, Value.oneCell']) xs

theorem und_eI_u64 {k : Nat} (xs : List Int) : G.unders k (fl (eI .u64) xs) = true := pures_unders _ _ (pures_fl pu_eI_u64 xs)

theorem pu_eL_eI_u64 : ∀ x, G.pures ((eL (eI .u64)) x) = true := fun x => by simp [eI, eB, eS, eL, G.pures, G.pure, pures_fl, pu_eI_u64]

theorem wkl_eL_eI_u64 {O O' : Objs} {n : Nat} (xs : List (List Int)) : wkl O O' n (fl (eL (eI .u64)) xs) (fl (eL (eI .u64)) xs) := wkl_pure (pures_fl pu_eL_eI_u64 xs)

theorem wka_eL_eI_u64 {O O' : Objs} {n : Nat} (xs : List (List Int)) (b b' : List G) : wkl O O' n (fl (eL (eI .u64)) xs ++ b) (fl (eL (eI .u64)) xs ++ b') = wkl O O' n b b' := wkl_same b b' _ (pures_fl pu_eL_eI_u64 xs)

theorem len_eL_eI_u64 (xs : List (List Int)) : (fl (eL (eI .u64)) xs).length = xs.length * 1 := fl_length (f := (eL (eI .u64))) (k := 1) (fun _ => rfl) xs

theorem one_eL_eI_u64 (xs : List (List Int)) : (fl (eL (eI .u64)) xs).all G.one = true := all_one_fl (fun x => by simp [eI, eB, eS, eL, G.one, Value.oneCell']) xs

theorem und_eL_eI_u64 {k : Nat} (xs : List (List Int)) : G.unders k (fl (eL (eI .u64)) xs) = true := pures_unders _ _ (pures_fl pu_eL_eI_u64 xs)

theorem pu_eI_u8 : ∀ x, G.pures ((eI .u8) x) = true := fun x => by simp [eI, eB, eS, eL, G.pures, G.pure, pures_fl, pu_eI_u64, pu_eL_eI_u64]

theorem wkl_eI_u8 {O O' : Objs} {n : Nat} (xs : List Int) : wkl O O' n (fl (eI .u8) xs) (fl (eI .u8) xs) := wkl_pure (pures_fl pu_eI_u8 xs)

theorem wka_eI_u8 {O O' : Objs} {n : Nat} (xs : List Int) (b b' : List G) : wkl O O' n (fl (eI .u8) xs ++ b) (fl (eI .u8) xs ++ b') = wkl O O' n b b' := wkl_same b b' _ (pures_fl pu_eI_u8 xs)

theorem len_eI_u8 (xs : List Int) : (fl (eI .u8) xs).length = xs.length * 1 := fl_length (f := (eI .u8)) (k := 1) (fun _ => rfl) xs

theorem one_eI_u8 (xs : List Int) : (fl (eI .u8) xs).all G.one = true := all_one_fl (fun x => by simp [eI, eB, eS, eL, G.one, Value.oneCell']) xs

theorem und_eI_u8 {k : Nat} (xs : List Int) : G.unders k (fl (eI .u8) xs) = true := pures_unders _ _ (pures_fl pu_eI_u8 xs)

theorem pu_eI_i64 : ∀ x, G.pures ((eI .i64) x) = true := fun x => by simp [eI, eB, eS, eL, G.pures, G.pure, pures_fl, pu_eI_u64, pu_eL_eI_u64, pu_eI_u8]

theorem wkl_eI_i64 {O O' : Objs} {n : Nat} (xs : List Int) : wkl O O' n (fl (eI .i64) xs) (fl (eI .i64) xs) := wkl_pure (pures_fl pu_eI_i64 xs)

theorem wka_eI_i64 {O O' : Objs} {n : Nat} (xs : List Int) (b b' : List G) : wkl O O' n (fl (eI .i64) xs ++ b) (fl (eI .i64) xs ++ b') = wkl O O' n b b' := wkl_same b b' _ (pures_fl pu_eI_i64 xs)

theorem len_eI_i64 (xs : List Int) : (fl (eI .i64) xs).length = xs.length * 1 := fl_length (f := (eI .i64)) (k := 1) (fun _ => rfl) xs

theorem one_eI_i64 (xs : List Int) : (fl (eI .i64) xs).all G.one = true := all_one_fl (fun x => by simp [eI, eB, eS, eL, G.one, Value.oneCell']) xs

theorem und_eI_i64 {k : Nat} (xs : List Int) : G.unders k (fl (eI .i64) xs) = true := pures_unders _ _ (pures_fl pu_eI_i64 xs)

end Go.Proofs.Ytgijkjifiekkmaa
