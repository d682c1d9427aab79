/- Part OE of this seat's mirrors: functions of the seat's program, and the plain functions that they are; each theorem bears its own conditions. -/
import Derived.Test.YtpggbianhdebmaaTy
import Derived.Test.YtpggbianhdebmaaOD
namespace Go.Proofs.Ytpggbianhdebmaa
open Go.RowKit
set_option linter.unusedVariables false
set_option linter.unusedSimpArgs false
set_option maxRecDepth 100000
set_option maxHeartbeats 4000000
theorem pu_eI_u64 : ∀ x, G.pures ((eI .u64) x) = true := fun x => by simp [eI, eB, eS, eL, eP, G.pures, G.pure, pures_fl, pure_gP]

theorem wkl_eI_u64 {O O' : Objs} {n : Nat} (xs : List Int) : wkl O O' n (fl (eI .u64) xs) (fl (eI .u64) xs) := wkl_pure (pures_fl pu_eI_u64 xs)

theorem wka_eI_u64 {O O' : Objs} {n : Nat} (xs : List Int) (b b' : List G) : wkl O O' n (fl (eI .u64) xs ++ b) (fl (eI .u64) xs ++ b') = wkl O O' n b b' := wkl_same b b' _ (pures_fl pu_eI_u64 xs)

theorem len_eI_u64 (xs : List Int) : (fl (eI .u64) xs).length = xs.length * 1 := fl_length (f := (eI .u64)) (k := 1) (fun _ => rfl) xs

theorem one_eI_u64 (xs : List Int) : (fl (eI .u64) xs).all G.one = true := all_one_fl (fun x => by simp [eI, eB, eS, eL, eP, one_gP, G.one, Value.oneCell']) xs

theorem wkp_eI_u64 {O O' : Objs} {n : Nat} (x : Option Int) : wk O O' n (gP (eI .u64) x) (gP (eI .u64) x) = True := wk_gP pu_eI_u64 x

theorem undp_eI_u64 {k : Nat} (x : Option Int) : (gP (eI .u64) x).under k = true := under_gP pu_eI_u64 k x

theorem rens_eI_u64 {ρ : Nat → Nat} (xs : List Int) : G.rens ρ (fl (eI .u64) xs) = fl (eI .u64) xs := rens_pure ρ _ (pures_fl pu_eI_u64 xs)

theorem renp_eI_u64 {ρ : Nat → Nat} (x : Option Int) : (gP (eI .u64) x).ren ρ = gP (eI .u64) x := ren_pure ρ _ (pure_gP pu_eI_u64 x)

theorem und_eI_u64 {k : Nat} (xs : List Int) : G.unders k (fl (eI .u64) xs) = true := pures_unders _ _ (pures_fl pu_eI_u64 xs)

theorem pu_eL_eI_u64 : ∀ x, G.pures ((eL (eI .u64)) x) = true := fun x => by simp [eI, eB, eS, eL, eP, G.pures, G.pure, pures_fl, pure_gP, pu_eI_u64]

theorem wkl_eL_eI_u64 {O O' : Objs} {n : Nat} (xs : List (List Int)) : wkl O O' n (fl (eL (eI .u64)) xs) (fl (eL (eI .u64)) xs) := wkl_pure (pures_fl pu_eL_eI_u64 xs)

theorem wka_eL_eI_u64 {O O' : Objs} {n : Nat} (xs : List (List Int)) (b b' : List G) : wkl O O' n (fl (eL (eI .u64)) xs ++ b) (fl (eL (eI .u64)) xs ++ b') = wkl O O' n b b' := wkl_same b b' _ (pures_fl pu_eL_eI_u64 xs)

theorem len_eL_eI_u64 (xs : List (List Int)) : (fl (eL (eI .u64)) xs).length = xs.length * 1 := fl_length (f := (eL (eI .u64))) (k := 1) (fun _ => rfl) xs

theorem one_eL_eI_u64 (xs : List (List Int)) : (fl (eL (eI .u64)) xs).all G.one = true := all_one_fl (fun x => by simp [eI, eB, eS, eL, eP, one_gP, G.one, Value.oneCell']) xs

theorem wkp_eL_eI_u64 {O O' : Objs} {n : Nat} (x : Option (List Int)) : wk O O' n (gP (eL (eI .u64)) x) (gP (eL (eI .u64)) x) = True := wk_gP pu_eL_eI_u64 x

theorem undp_eL_eI_u64 {k : Nat} (x : Option (List Int)) : (gP (eL (eI .u64)) x).under k = true := under_gP pu_eL_eI_u64 k x

theorem rens_eL_eI_u64 {ρ : Nat → Nat} (xs : List (List Int)) : G.rens ρ (fl (eL (eI .u64)) xs) = fl (eL (eI .u64)) xs := rens_pure ρ _ (pures_fl pu_eL_eI_u64 xs)

theorem renp_eL_eI_u64 {ρ : Nat → Nat} (x : Option (List Int)) : (gP (eL (eI .u64)) x).ren ρ = gP (eL (eI .u64)) x := ren_pure ρ _ (pure_gP pu_eL_eI_u64 x)

theorem und_eL_eI_u64 {k : Nat} (xs : List (List Int)) : G.unders k (fl (eL (eI .u64)) xs) = true := pures_unders _ _ (pures_fl pu_eL_eI_u64 xs)

def e_S_arena_Arena (x : S_arena_Arena) : List G := [.sl x.segments.length (fl (eL (eI .u64)) x.segments), .val (.int .i64 x.size), .val (.int .i64 x.left)]

theorem pu_e_S_arena_Arena : ∀ x, G.pures (e_S_arena_Arena x) = true := fun x => by simp [eI, eB, eS, eL, eP, G.pures, G.pure, pures_fl, pure_gP, e_S_arena_Arena, pu_eI_u64, pu_eL_eI_u64]

theorem wkl_e_S_arena_Arena {O O' : Objs} {n : Nat} (xs : List S_arena_Arena) : wkl O O' n (fl e_S_arena_Arena xs) (fl e_S_arena_Arena xs) := wkl_pure (pures_fl pu_e_S_arena_Arena xs)

theorem wka_e_S_arena_Arena {O O' : Objs} {n : Nat} (xs : List S_arena_Arena) (b b' : List G) : wkl O O' n (fl e_S_arena_Arena xs ++ b) (fl e_S_arena_Arena xs ++ b') = wkl O O' n b b' := wkl_same b b' _ (pures_fl pu_e_S_arena_Arena xs)

theorem len_e_S_arena_Arena (xs : List S_arena_Arena) : (fl e_S_arena_Arena xs).length = xs.length * 3 := fl_length (f := e_S_arena_Arena) (k := 3) (fun _ => rfl) xs

theorem one_e_S_arena_Arena (xs : List S_arena_Arena) : (fl e_S_arena_Arena xs).all G.one = true := all_one_fl (fun x => by simp [eI, eB, eS, eL, eP, one_gP, G.one, Value.oneCell', e_S_arena_Arena]) xs

theorem wkp_e_S_arena_Arena {O O' : Objs} {n : Nat} (x : Option S_arena_Arena) : wk O O' n (gP e_S_arena_Arena x) (gP e_S_arena_Arena x) = True := wk_gP pu_e_S_arena_Arena x

theorem undp_e_S_arena_Arena {k : Nat} (x : Option S_arena_Arena) : (gP e_S_arena_Arena x).under k = true := under_gP pu_e_S_arena_Arena k x

theorem rens_e_S_arena_Arena {ρ : Nat → Nat} (xs : List S_arena_Arena) : G.rens ρ (fl e_S_arena_Arena xs) = fl e_S_arena_Arena xs := rens_pure ρ _ (pures_fl pu_e_S_arena_Arena xs)

theorem renp_e_S_arena_Arena {ρ : Nat → Nat} (x : Option S_arena_Arena) : (gP e_S_arena_Arena x).ren ρ = gP e_S_arena_Arena x := ren_pure ρ _ (pure_gP pu_e_S_arena_Arena x)

theorem und_e_S_arena_Arena {k : Nat} (xs : List S_arena_Arena) : G.unders k (fl e_S_arena_Arena xs) = true := pures_unders _ _ (pures_fl pu_e_S_arena_Arena xs)

end Go.Proofs.Ytpggbianhdebmaa
