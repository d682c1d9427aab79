/- Part AE of this seat's mirrors: functions of the seat's program, and the plain functions that they are; each theorem bears its own conditions. -/
import Derived.Test.YtbcgiaijjaocdaaTy
import Derived.Test.YtbcgiaijjaocdaaAD
namespace Go.Proofs.Ytbcgiaijjaocdaa
open Go.RowKit
set_option linter.unusedVariables false
set_option linter.unusedSimpArgs false
set_option maxRecDepth 100000
set_option maxHeartbeats 1000000
mutual
def e0_S_api_Tree : S_api_Tree → List G
  | ⟨f0, f1, f2⟩ => [.val (.int .i64 f0), .sl f1.length (fl (eI .u64) f1), .sl f2.length (f0_S_api_Tree f2)]
def f0_S_api_Tree : List S_api_Tree → List G
  | [] => []
  | x :: xs => e0_S_api_Tree x ++ f0_S_api_Tree xs
end

theorem f0_eq_S_api_Tree : ∀ xs, f0_S_api_Tree xs = fl e0_S_api_Tree xs
  | [] => by simp [f0_S_api_Tree, fl]
  | x :: xs => by rw [f0_S_api_Tree, fl_cons, f0_eq_S_api_Tree xs]

def e_S_api_Tree (x : S_api_Tree) : List G := [.val (.int .i64 x.Kind), .sl x.Words.length (fl (eI .u64) x.Words), .sl x.Kids.length (fl e0_S_api_Tree x.Kids)]

theorem e0_eq_S_api_Tree : e0_S_api_Tree = e_S_api_Tree := by
  funext x
  obtain ⟨_, _, _⟩ := x
  simp only [e0_S_api_Tree, f0_eq_S_api_Tree, e_S_api_Tree, List.cons_append, List.nil_append, List.append_nil]

mutual
theorem pu0_S_api_Tree : ∀ x, G.pures (e0_S_api_Tree x) = true
  | ⟨f0, f1, f2⟩ => by simp [e0_S_api_Tree, eP, pure_gP, eI, eB, eS, eL, G.pures, G.pure, pures_app, pures_fl, pul0_S_api_Tree f2]
theorem pul0_S_api_Tree : ∀ xs, G.pures (f0_S_api_Tree xs) = true
  | [] => rfl
  | x :: xs => by simp [f0_S_api_Tree, pures_app, pu0_S_api_Tree x, pul0_S_api_Tree xs]
end

theorem pue_S_api_Tree : ∀ x, G.pures (e_S_api_Tree x) = true := fun x => by rw [← e0_eq_S_api_Tree]; exact pu0_S_api_Tree x

theorem pu_eI_u64 : ∀ x, G.pures ((eI .u64) x) = true := fun x => by simp [eI, eB, eS, eL, eP, G.pures, G.pure, pures_fl, pure_gP, e0_eq_S_api_Tree]

theorem wkl_eI_u64 {O O' : Objs} {n : Nat} (xs : List Int) : wkl O O' n (fl (eI .u64) xs) (fl (eI .u64) xs) := wkl_pure (pures_fl pu_eI_u64 xs)

theorem wka_eI_u64 {O O' : Objs} {n : Nat} (xs : List Int) (b b' : List G) : wkl O O' n (fl (eI .u64) xs ++ b) (fl (eI .u64) xs ++ b') = wkl O O' n b b' := wkl_same b b' _ (pures_fl pu_eI_u64 xs)

theorem len_eI_u64 (xs : List Int) : (fl (eI .u64) xs).length = xs.length * 1 := fl_length (f := (eI .u64)) (k := 1) (fun _ => rfl) xs

theorem one_eI_u64 (xs : List Int) : (fl (eI .u64) xs).all G.one = true := all_one_fl (fun x => by simp [eI, eB, eS, eL, eP, one_gP, G.one, Value.oneCell']) xs

theorem wkp_eI_u64 {O O' : Objs} {n : Nat} (x : Option Int) : wk O O' n (gP (eI .u64) x) (gP (eI .u64) x) = True := wk_gP pu_eI_u64 x

theorem undp_eI_u64 {k : Nat} (x : Option Int) : (gP (eI .u64) x).under k = true := under_gP pu_eI_u64 k x

theorem rens_eI_u64 {ρ : Nat → Nat} (xs : List Int) : G.rens ρ (fl (eI .u64) xs) = fl (eI .u64) xs := rens_pure ρ _ (pures_fl pu_eI_u64 xs)

theorem renp_eI_u64 {ρ : Nat → Nat} (x : Option Int) : (gP (eI .u64) x).ren ρ = gP (eI .u64) x := ren_pure ρ _ (pure_gP pu_eI_u64 x)

theorem und_eI_u64 {k : Nat} (xs : List Int) : G.unders k (fl (eI .u64) xs) = true := pures_unders _ _ (pures_fl pu_eI_u64 xs)

theorem pu_e_S_api_Tree : ∀ x, G.pures (e_S_api_Tree x) = true := fun x => by rw [← e0_eq_S_api_Tree]; exact pu0_S_api_Tree x

theorem wkl_e_S_api_Tree {O O' : Objs} {n : Nat} (xs : List S_api_Tree) : wkl O O' n (fl e_S_api_Tree xs) (fl e_S_api_Tree xs) := wkl_pure (pures_fl pu_e_S_api_Tree xs)

theorem wka_e_S_api_Tree {O O' : Objs} {n : Nat} (xs : List S_api_Tree) (b b' : List G) : wkl O O' n (fl e_S_api_Tree xs ++ b) (fl e_S_api_Tree xs ++ b') = wkl O O' n b b' := wkl_same b b' _ (pures_fl pu_e_S_api_Tree xs)

theorem len_e_S_api_Tree (xs : List S_api_Tree) : (fl e_S_api_Tree xs).length = xs.length * 3 := fl_length (f := e_S_api_Tree) (k := 3) (fun _ => rfl) xs

theorem one_e_S_api_Tree (xs : List S_api_Tree) : (fl e_S_api_Tree xs).all G.one = true := all_one_fl (fun x => by simp [eI, eB, eS, eL, eP, one_gP, G.one, Value.oneCell', e_S_api_Tree]) xs

theorem wkp_e_S_api_Tree {O O' : Objs} {n : Nat} (x : Option S_api_Tree) : wk O O' n (gP e_S_api_Tree x) (gP e_S_api_Tree x) = True := wk_gP pu_e_S_api_Tree x

theorem undp_e_S_api_Tree {k : Nat} (x : Option S_api_Tree) : (gP e_S_api_Tree x).under k = true := under_gP pu_e_S_api_Tree k x

theorem rens_e_S_api_Tree {ρ : Nat → Nat} (xs : List S_api_Tree) : G.rens ρ (fl e_S_api_Tree xs) = fl e_S_api_Tree xs := rens_pure ρ _ (pures_fl pu_e_S_api_Tree xs)

theorem renp_e_S_api_Tree {ρ : Nat → Nat} (x : Option S_api_Tree) : (gP e_S_api_Tree x).ren ρ = gP e_S_api_Tree x := ren_pure ρ _ (pure_gP pu_e_S_api_Tree x)

theorem und_e_S_api_Tree {k : Nat} (xs : List S_api_Tree) : G.unders k (fl e_S_api_Tree xs) = true := pures_unders _ _ (pures_fl pu_e_S_api_Tree xs)

def e_S_api_Step (x : S_api_Step) : List G := [.val (.int .i64 x.Kind), .val (.int .i64 x.At)]

theorem pu_e_S_api_Step : ∀ x, G.pures (e_S_api_Step x) = true := fun x => by simp [eI, eB, eS, eL, eP, G.pures, G.pure, pures_fl, pure_gP, e_S_api_Step, pu_eI_u64, pu_e_S_api_Tree, e0_eq_S_api_Tree]

theorem wkl_e_S_api_Step {O O' : Objs} {n : Nat} (xs : List S_api_Step) : wkl O O' n (fl e_S_api_Step xs) (fl e_S_api_Step xs) := wkl_pure (pures_fl pu_e_S_api_Step xs)

theorem wka_e_S_api_Step {O O' : Objs} {n : Nat} (xs : List S_api_Step) (b b' : List G) : wkl O O' n (fl e_S_api_Step xs ++ b) (fl e_S_api_Step xs ++ b') = wkl O O' n b b' := wkl_same b b' _ (pures_fl pu_e_S_api_Step xs)

theorem len_e_S_api_Step (xs : List S_api_Step) : (fl e_S_api_Step xs).length = xs.length * 2 := fl_length (f := e_S_api_Step) (k := 2) (fun _ => rfl) xs

theorem one_e_S_api_Step (xs : List S_api_Step) : (fl e_S_api_Step xs).all G.one = true := all_one_fl (fun x => by simp [eI, eB, eS, eL, eP, one_gP, G.one, Value.oneCell', e_S_api_Step]) xs

theorem wkp_e_S_api_Step {O O' : Objs} {n : Nat} (x : Option S_api_Step) : wk O O' n (gP e_S_api_Step x) (gP e_S_api_Step x) = True := wk_gP pu_e_S_api_Step x

theorem undp_e_S_api_Step {k : Nat} (x : Option S_api_Step) : (gP e_S_api_Step x).under k = true := under_gP pu_e_S_api_Step k x

theorem rens_e_S_api_Step {ρ : Nat → Nat} (xs : List S_api_Step) : G.rens ρ (fl e_S_api_Step xs) = fl e_S_api_Step xs := rens_pure ρ _ (pures_fl pu_e_S_api_Step xs)

theorem renp_e_S_api_Step {ρ : Nat → Nat} (x : Option S_api_Step) : (gP e_S_api_Step x).ren ρ = gP e_S_api_Step x := ren_pure ρ _ (pure_gP pu_e_S_api_Step x)

theorem und_e_S_api_Step {k : Nat} (xs : List S_api_Step) : G.unders k (fl e_S_api_Step xs) = true := pures_unders _ _ (pures_fl pu_e_S_api_Step xs)

theorem pu_eI_i64 : ∀ x, G.pures ((eI .i64) x) = true := fun x => by simp [eI, eB, eS, eL, eP, G.pures, G.pure, pures_fl, pure_gP, pu_eI_u64, pu_e_S_api_Tree, pu_e_S_api_Step, e0_eq_S_api_Tree]

theorem wkl_eI_i64 {O O' : Objs} {n : Nat} (xs : List Int) : wkl O O' n (fl (eI .i64) xs) (fl (eI .i64) xs) := wkl_pure (pures_fl pu_eI_i64 xs)

theorem wka_eI_i64 {O O' : Objs} {n : Nat} (xs : List Int) (b b' : List G) : wkl O O' n (fl (eI .i64) xs ++ b) (fl (eI .i64) xs ++ b') = wkl O O' n b b' := wkl_same b b' _ (pures_fl pu_eI_i64 xs)

theorem len_eI_i64 (xs : List Int) : (fl (eI .i64) xs).length = xs.length * 1 := fl_length (f := (eI .i64)) (k := 1) (fun _ => rfl) xs

theorem one_eI_i64 (xs : List Int) : (fl (eI .i64) xs).all G.one = true := all_one_fl (fun x => by simp [eI, eB, eS, eL, eP, one_gP, G.one, Value.oneCell']) xs

theorem wkp_eI_i64 {O O' : Objs} {n : Nat} (x : Option Int) : wk O O' n (gP (eI .i64) x) (gP (eI .i64) x) = True := wk_gP pu_eI_i64 x

theorem undp_eI_i64 {k : Nat} (x : Option Int) : (gP (eI .i64) x).under k = true := under_gP pu_eI_i64 k x

theorem rens_eI_i64 {ρ : Nat → Nat} (xs : List Int) : G.rens ρ (fl (eI .i64) xs) = fl (eI .i64) xs := rens_pure ρ _ (pures_fl pu_eI_i64 xs)

theorem renp_eI_i64 {ρ : Nat → Nat} (x : Option Int) : (gP (eI .i64) x).ren ρ = gP (eI .i64) x := ren_pure ρ _ (pure_gP pu_eI_i64 x)

theorem und_eI_i64 {k : Nat} (xs : List Int) : G.unders k (fl (eI .i64) xs) = true := pures_unders _ _ (pures_fl pu_eI_i64 xs)

end Go.Proofs.Ytbcgiaijjaocdaa
