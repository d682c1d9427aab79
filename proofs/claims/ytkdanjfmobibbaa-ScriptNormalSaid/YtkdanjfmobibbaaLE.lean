/- Part LE of this seat's mirrors: functions of the seat's program, and the plain functions that they are; each theorem bears its own conditions. -/
import Derived.Test.YtkdanjfmobibbaaTy
import Derived.Test.YtkdanjfmobibbaaLD
namespace Go.Proofs.Ytkdanjfmobibbaa
open Go.RowKit
set_option linter.unusedVariables false
set_option linter.unusedSimpArgs false
set_option maxRecDepth 100000
set_option maxHeartbeats 4000000
def e_S_centoref17_Step (x : S_centoref17_Step) : List G := [.val (.int .i64 x.Kind), .val (.int .i64 x.N)]

theorem pu_e_S_centoref17_Step : ∀ x, G.pures (e_S_centoref17_Step x) = true := fun x => by simp [eI, eB, eS, eL, eP, G.pures, G.pure, pures_fl, pure_gP, e_S_centoref17_Step]

theorem wkl_e_S_centoref17_Step {O O' : Objs} {n : Nat} (xs : List S_centoref17_Step) : wkl O O' n (fl e_S_centoref17_Step xs) (fl e_S_centoref17_Step xs) := wkl_pure (pures_fl pu_e_S_centoref17_Step xs)

theorem wka_e_S_centoref17_Step {O O' : Objs} {n : Nat} (xs : List S_centoref17_Step) (b b' : List G) : wkl O O' n (fl e_S_centoref17_Step xs ++ b) (fl e_S_centoref17_Step xs ++ b') = wkl O O' n b b' := wkl_same b b' _ (pures_fl pu_e_S_centoref17_Step xs)

theorem len_e_S_centoref17_Step (xs : List S_centoref17_Step) : (fl e_S_centoref17_Step xs).length = xs.length * 2 := fl_length (f := e_S_centoref17_Step) (k := 2) (fun _ => rfl) xs

theorem one_e_S_centoref17_Step (xs : List S_centoref17_Step) : (fl e_S_centoref17_Step xs).all G.one = true := all_one_fl (fun x => by simp [eI, eB, eS, eL, eP, one_gP, G.one, Value.oneCell', e_S_centoref17_Step]) xs

theorem wkp_e_S_centoref17_Step {O O' : Objs} {n : Nat} (x : Option S_centoref17_Step) : wk O O' n (gP e_S_centoref17_Step x) (gP e_S_centoref17_Step x) = True := wk_gP pu_e_S_centoref17_Step x

theorem undp_e_S_centoref17_Step {k : Nat} (x : Option S_centoref17_Step) : (gP e_S_centoref17_Step x).under k = true := under_gP pu_e_S_centoref17_Step k x

theorem rens_e_S_centoref17_Step {ρ : Nat → Nat} (xs : List S_centoref17_Step) : G.rens ρ (fl e_S_centoref17_Step xs) = fl e_S_centoref17_Step xs := rens_pure ρ _ (pures_fl pu_e_S_centoref17_Step xs)

theorem renp_e_S_centoref17_Step {ρ : Nat → Nat} (x : Option S_centoref17_Step) : (gP e_S_centoref17_Step x).ren ρ = gP e_S_centoref17_Step x := ren_pure ρ _ (pure_gP pu_e_S_centoref17_Step x)

theorem und_e_S_centoref17_Step {k : Nat} (xs : List S_centoref17_Step) : G.unders k (fl e_S_centoref17_Step xs) = true := pures_unders _ _ (pures_fl pu_e_S_centoref17_Step xs)

theorem pu_eI_i64 : ∀ x, G.pures ((eI .i64) x) = true := fun x => by simp [eI, eB, eS, eL, eP, G.pures, G.pure, pures_fl, pure_gP, pu_e_S_centoref17_Step]

theorem wkl_eI_i64 {O O' : Objs} {n : Nat} (xs : List Int) : wkl O O' n (fl (eI .i64) xs) (fl (eI .i64) xs) := wkl_pure (pures_fl pu_eI_i64 xs)

theorem wka_eI_i64 {O O' : Objs} {n : Nat} (xs : List Int) (b b' : List G) : wkl O O' n (fl (eI .i64) xs ++ b) (fl (eI .i64) xs ++ b') = wkl O O' n b b' := wkl_same b b' _ (pures_fl pu_eI_i64 xs)

theorem len_eI_i64 (xs : List Int) : (fl (eI .i64) xs).length = xs.length * 1 := fl_length (f := (eI .i64)) (k := 1) (fun _ => rfl) xs

theorem one_eI_i64 (xs : List Int) : (fl (eI .i64) xs).all G.one = true := all_one_fl (fun x => by simp [eI, eB, eS, eL, eP, one_gP, G.one, Value.oneCell']) xs

theorem wkp_eI_i64 {O O' : Objs} {n : Nat} (x : Option Int) : wk O O' n (gP (eI .i64) x) (gP (eI .i64) x) = True := wk_gP pu_eI_i64 x

theorem undp_eI_i64 {k : Nat} (x : Option Int) : (gP (eI .i64) x).under k = true := under_gP pu_eI_i64 k x

theorem rens_eI_i64 {ρ : Nat → Nat} (xs : List Int) : G.rens ρ (fl (eI .i64) xs) = fl (eI .i64) xs := rens_pure ρ _ (pures_fl pu_eI_i64 xs)

theorem renp_eI_i64 {ρ : Nat → Nat} (x : Option Int) : (gP (eI .i64) x).ren ρ = gP (eI .i64) x := ren_pure ρ _ (pure_gP pu_eI_i64 x)

theorem und_eI_i64 {k : Nat} (xs : List Int) : G.unders k (fl (eI .i64) xs) = true := pures_unders _ _ (pures_fl pu_eI_i64 xs)

end Go.Proofs.Ytkdanjfmobibbaa
