/- Part AE of this seat's mirrors: functions of the seat's program, and the plain functions that they are; each theorem bears its own conditions. -/
import Derived.Test.YtjeolggpgclgkaaTy
import Derived.Test.YtjeolggpgclgkaaAD
namespace Go.Proofs.Ytjeolggpgclgkaa
open Go.RowKit
set_option linter.unusedVariables false
set_option linter.unusedSimpArgs false
set_option maxRecDepth 100000
mutual
def e0_S_api_Tree : S_api_Tree → List G
  | ⟨f0, f1, f2⟩ => [.val (.int .i64 f0), .sl f1.length (fl (eI .u64) f1), .sl f2.length (f0_S_api_Tree f2)]
def f0_S_api_Tree : List S_api_Tree → List G
  | [] => []
  | x :: xs => e0_S_api_Tree x ++ f0_S_api_Tree xs
end

theorem f0_eq_S_api_Tree : ∀ xs, f0_S_api_Tree xs = fl e0_S_api_Tree xs
  | [] => by simp [f0_S_api_Tree, fl]
  | x :: xs => by rw [f0_S_api_Tree, fl_cons, f0_eq_S_api_Tree xs]

def e_S_api_Tree (x : S_api_Tree) : List G := [.val (.int .i64 x.Kind), .sl x.Words.length (fl (eI .u64) x.Words), .sl x.Kids.length (fl e0_S_api_Tree x.Kids)]

theorem e0_eq_S_api_Tree : e0_S_api_Tree = e_S_api_Tree := by
  funext x
  obtain ⟨_, _, _⟩ := x
  simp only [e0_S_api_Tree, f0_eq_S_api_Tree, e_S_api_Tree, List.cons_append, List.nil_append, List.append_nil]

mutual
theorem pu0_S_api_Tree : ∀ x, G.pures (e0_S_api_Tree x) = true
  | ⟨f0, f1, f2⟩ => by simp [e0_S_api_Tree, eI, eB, eS, eL, G.pures, G.pure, pures_app, pures_fl, pul0_S_api_Tree f2]
theorem pul0_S_api_Tree : ∀ xs, G.pures (f0_S_api_Tree xs) = true
  | [] => rfl
  | x :: xs => by simp [f0_S_api_Tree, pures_app, pu0_S_api_Tree x, pul0_S_api_Tree xs]
end

theorem pu_eI_u64 : ∀ x, G.pures ((eI .u64) x) = true := fun x => by simp [eI, eB, eS, eL, G.pures, G.pure, pures_fl, e0_eq_S_api_Tree]

theorem wkl_eI_u64 {O O' : Objs} {n : Nat} (xs : List Int) : wkl O O' n (fl (eI .u64) xs) (fl (eI .u64) xs) := wkl_pure (pures_fl pu_eI_u64 xs)

theorem wka_eI_u64 {O O' : Objs} {n : Nat} (xs : List Int) (b b' : List G) : wkl O O' n (fl (eI .u64) xs ++ b) (fl (eI .u64) xs ++ b') = wkl O O' n b b' := wkl_same b b' _ (pures_fl pu_eI_u64 xs)

theorem len_eI_u64 (xs : List Int) : (fl (eI .u64) xs).length = xs.length * 1 := fl_length (f := (eI .u64)) (k := 1) (fun _ => rfl) xs

theorem one_eI_u64 (xs : List Int) : (fl (eI .u64) xs).all G.one = true := all_one_fl (fun x => by simp [eI, eB, eS, eL, G.one, Value.oneCell']) xs

theorem und_eI_u64 {k : Nat} (xs : List Int) : G.unders k (fl (eI .u64) xs) = true := pures_unders _ _ (pures_fl pu_eI_u64 xs)

theorem pu_e_S_api_Tree : ∀ x, G.pures (e_S_api_Tree x) = true := fun x => by rw [← e0_eq_S_api_Tree]; exact pu0_S_api_Tree x

theorem wkl_e_S_api_Tree {O O' : Objs} {n : Nat} (xs : List S_api_Tree) : wkl O O' n (fl e_S_api_Tree xs) (fl e_S_api_Tree xs) := wkl_pure (pures_fl pu_e_S_api_Tree xs)

theorem wka_e_S_api_Tree {O O' : Objs} {n : Nat} (xs : List S_api_Tree) (b b' : List G) : wkl O O' n (fl e_S_api_Tree xs ++ b) (fl e_S_api_Tree xs ++ b') = wkl O O' n b b' := wkl_same b b' _ (pures_fl pu_e_S_api_Tree xs)

theorem len_e_S_api_Tree (xs : List S_api_Tree) : (fl e_S_api_Tree xs).length = xs.length * 3 := fl_length (f := e_S_api_Tree) (k := 3) (fun _ => rfl) xs

theorem one_e_S_api_Tree (xs : List S_api_Tree) : (fl e_S_api_Tree xs).all G.one = true := all_one_fl (fun x => by simp [eI, eB, eS, eL, G.one, Value.oneCell', e_S_api_Tree]) xs

theorem und_e_S_api_Tree {k : Nat} (xs : List S_api_Tree) : G.unders k (fl e_S_api_Tree xs) = true := pures_unders _ _ (pures_fl pu_e_S_api_Tree xs)

theorem pu_eI_i64 : ∀ x, G.pures ((eI .i64) x) = true := fun x => by simp [eI, eB, eS, eL, G.pures, G.pure, pures_fl, pu_eI_u64, pu_e_S_api_Tree, e0_eq_S_api_Tree]

theorem wkl_eI_i64 {O O' : Objs} {n : Nat} (xs : List Int) : wkl O O' n (fl (eI .i64) xs) (fl (eI .i64) xs) := wkl_pure (pures_fl pu_eI_i64 xs)

theorem wka_eI_i64 {O O' : Objs} {n : Nat} (xs : List Int) (b b' : List G) : wkl O O' n (fl (eI .i64) xs ++ b) (fl (eI .i64) xs ++ b') = wkl O O' n b b' := wkl_same b b' _ (pures_fl pu_eI_i64 xs)

theorem len_eI_i64 (xs : List Int) : (fl (eI .i64) xs).length = xs.length * 1 := fl_length (f := (eI .i64)) (k := 1) (fun _ => rfl) xs

theorem one_eI_i64 (xs : List Int) : (fl (eI .i64) xs).all G.one = true := all_one_fl (fun x => by simp [eI, eB, eS, eL, G.one, Value.oneCell']) xs

theorem und_eI_i64 {k : Nat} (xs : List Int) : G.unders k (fl (eI .i64) xs) = true := pures_unders _ _ (pures_fl pu_eI_i64 xs)

end Go.Proofs.Ytjeolggpgclgkaa
