/- Part WE of this seat's mirrors: functions of the seat's program, and the plain functions that they are; each theorem bears its own conditions. -/
import Derived.Test.YtbcgiaijjaocdaaTy
import Derived.Test.YtbcgiaijjaocdaaWD
namespace Go.Proofs.Ytbcgiaijjaocdaa
open Go.RowKit
set_option linter.unusedVariables false
set_option linter.unusedSimpArgs false
set_option maxRecDepth 100000
set_option maxHeartbeats 1000000
mutual
def e0_S_api_Tree : S_api_Tree → List G
  | ⟨f0, f1, f2⟩ => [.val (.int .i64 f0), .sl f1.length (fl (eI .u64) f1), .sl f2.length (f0_S_api_Tree f2)]
def f0_S_api_Tree : List S_api_Tree → List G
  | [] => []
  | x :: xs => e0_S_api_Tree x ++ f0_S_api_Tree xs
end
theorem f0_eq_S_api_Tree : ∀ xs, f0_S_api_Tree xs = fl e0_S_api_Tree xs
  | [] => by simp [f0_S_api_Tree, fl]
  | x :: xs => by rw [f0_S_api_Tree, fl_cons, f0_eq_S_api_Tree xs]
def e_S_api_Tree (x : S_api_Tree) : List G := [.val (.int .i64 x.Kind), .sl x.Words.length (fl (eI .u64) x.Words), .sl x.Kids.length (fl e0_S_api_Tree x.Kids)]
theorem e0_eq_S_api_Tree : e0_S_api_Tree = e_S_api_Tree := by
  funext x
  obtain ⟨_, _, _⟩ := x
  simp only [e0_S_api_Tree, f0_eq_S_api_Tree, e_S_api_Tree, List.cons_append, List.nil_append, List.append_nil]
mutual
theorem pu0_S_api_Tree : ∀ x, G.pures (e0_S_api_Tree x) = true
  | ⟨f0, f1, f2⟩ => by simp [e0_S_api_Tree, eP, pure_gP, eI, eB, eS, eL, G.pures, G.pure, pures_app, pures_fl, pul0_S_api_Tree f2]
theorem pul0_S_api_Tree : ∀ xs, G.pures (f0_S_api_Tree xs) = true
  | [] => rfl
  | x :: xs => by simp [f0_S_api_Tree, pures_app, pu0_S_api_Tree x, pul0_S_api_Tree xs]
end
theorem pue_S_api_Tree : ∀ x, G.pures (e_S_api_Tree x) = true := fun x => by rw [← e0_eq_S_api_Tree]; exact pu0_S_api_Tree x
theorem pu_eI_u64 : ∀ x, G.pures ((eI .u64) x) = true := fun x => by simp [eI, eB, eS, eL, eP, G.pures, G.pure, pures_fl, pure_gP, e0_eq_S_api_Tree]
theorem wkl_eI_u64 {O O' : Objs} {n : Nat} (xs : List Int) : wkl O O' n (fl (eI .u64) xs) (fl (eI .u64) xs) := wkl_pure (pures_fl pu_eI_u64 xs)
theorem wka_eI_u64 {O O' : Objs} {n : Nat} (xs : List Int) (b b' : List G) : wkl O O' n (fl (eI .u64) xs ++ b) (fl (eI .u64) xs ++ b') = wkl O O' n b b' := wkl_same b b' _ (pures_fl pu_eI_u64 xs)
theorem len_eI_u64 (xs : List Int) : (fl (eI .u64) xs).length = xs.length * 1 := fl_length (f := (eI .u64)) (k := 1) (fun _ => rfl) xs
theorem one_eI_u64 (xs : List Int) : (fl (eI .u64) xs).all G.one = true := all_one_fl (fun x => by simp [eI, eB, eS, eL, eP, one_gP, G.one, Value.oneCell']) xs
theorem wkp_eI_u64 {O O' : Objs} {n : Nat} (x : Option Int) : wk O O' n (gP (eI .u64) x) (gP (eI .u64) x) = True := wk_gP pu_eI_u64 x
theorem undp_eI_u64 {k : Nat} (x : Option Int) : (gP (eI .u64) x).under k = true := under_gP pu_eI_u64 k x
theorem rens_eI_u64 {ρ : Nat → Nat} (xs : List Int) : G.rens ρ (fl (eI .u64) xs) = fl (eI .u64) xs := rens_pure ρ _ (pures_fl pu_eI_u64 xs)
theorem renp_eI_u64 {ρ : Nat → Nat} (x : Option Int) : (gP (eI .u64) x).ren ρ = gP (eI .u64) x := ren_pure ρ _ (pure_gP pu_eI_u64 x)
theorem und_eI_u64 {k : Nat} (xs : List Int) : G.unders k (fl (eI .u64) xs) = true := pures_unders _ _ (pures_fl pu_eI_u64 xs)
theorem pu_e_S_api_Tree : ∀ x, G.pures (e_S_api_Tree x) = true := fun x => by rw [← e0_eq_S_api_Tree]; exact pu0_S_api_Tree x
theorem wkl_e_S_api_Tree {O O' : Objs} {n : Nat} (xs : List S_api_Tree) : wkl O O' n (fl e_S_api_Tree xs) (fl e_S_api_Tree xs) := wkl_pure (pures_fl pu_e_S_api_Tree xs)
theorem wka_e_S_api_Tree {O O' : Objs} {n : Nat} (xs : List S_api_Tree) (b b' : List G) : wkl O O' n (fl e_S_api_Tree xs ++ b) (fl e_S_api_Tree xs ++ b') = wkl O O' n b b' := wkl_same b b' _ (pures_fl pu_e_S_api_Tree xs)
theorem len_e_S_api_Tree (xs : List S_api_Tree) : (fl e_S_api_Tree xs).length = xs.length * 3 := fl_length (f := e_S_api_Tree) (k := 3) (fun _ => rfl) xs
theorem one_e_S_api_Tree (xs : List S_api_Tree) : (fl e_S_api_Tree xs).all G.one = true := all_one_fl (fun x => by simp [eI, eB, eS, eL, eP, one_gP, G.one, Value.oneCell', e_S_api_Tree]) xs
theorem wkp_e_S_api_Tree {O O' : Objs} {n : Nat} (x : Option S_api_Tree) : wk O O' n (gP e_S_api_Tree x) (gP e_S_api_Tree x) = True := wk_gP pu_e_S_api_Tree x
theorem undp_e_S_api_Tree {k : Nat} (x : Option S_api_Tree) : (gP e_S_api_Tree x).under k = true := under_gP pu_e_S_api_Tree k x
theorem rens_e_S_api_Tree {ρ : Nat → Nat} (xs : List S_api_Tree) : G.rens ρ (fl e_S_api_Tree xs) = fl e_S_api_Tree xs := rens_pure ρ _ (pures_fl pu_e_S_api_Tree xs)
theorem renp_e_S_api_Tree {ρ : Nat → Nat} (x : Option S_api_Tree) : (gP e_S_api_Tree x).ren ρ = gP e_S_api_Tree x := ren_pure ρ _ (pure_gP pu_e_S_api_Tree x)
theorem und_e_S_api_Tree {k : Nat} (xs : List S_api_Tree) : G.unders k (fl e_S_api_Tree xs) = true := pures_unders _ _ (pures_fl pu_e_S_api_Tree xs)
def e_S_api_WordEdit (x : S_api_WordEdit) : List G := [.val (.int .i64 x.At), .val (.int .u8 x.Mask), .val (.int .u64 x.Old), .val (.int .u64 x.New)]
mutual
def e0_S_api_Edit : S_api_Edit → List G
  | ⟨f0, f1, f2, f3, f4, f5, f6⟩ => [.val (.int .i64 f0), .val (.int .i64 f1.Kind), .sl f1.Words.length (fl (eI .u64) f1.Words), .sl f1.Kids.length (fl e_S_api_Tree f1.Kids), .val (.int .i64 f2.Kind), .sl f2.Words.length (fl (eI .u64) f2.Words), .sl f2.Kids.length (fl e_S_api_Tree f2.Kids), .sl f3.length (fl e_S_api_WordEdit f3), .sl f4.length (f0_S_api_KidEdit f4), .val (.int .i64 f5), .sl f6.length (f0_S_api_Op f6)]
def f0_S_api_Edit : List S_api_Edit → List G
  | [] => []
  | x :: xs => e0_S_api_Edit x ++ f0_S_api_Edit xs
def e0_S_api_Op : S_api_Op → List G
  | ⟨f0, f1, f2, f3⟩ => [.val (.int .i64 f0), .val (.int .i64 f1), .sl f2.length (fl e_S_api_Tree f2)] ++ e0_S_api_Edit f3
def f0_S_api_Op : List S_api_Op → List G
  | [] => []
  | x :: xs => e0_S_api_Op x ++ f0_S_api_Op xs
def e0_S_api_KidEdit : S_api_KidEdit → List G
  | ⟨f0, f1⟩ => [.val (.int .i64 f0)] ++ e0_S_api_Edit f1
def f0_S_api_KidEdit : List S_api_KidEdit → List G
  | [] => []
  | x :: xs => e0_S_api_KidEdit x ++ f0_S_api_KidEdit xs
end
theorem f0_eq_S_api_Edit : ∀ xs, f0_S_api_Edit xs = fl e0_S_api_Edit xs
  | [] => by simp [f0_S_api_Edit, fl]
  | x :: xs => by rw [f0_S_api_Edit, fl_cons, f0_eq_S_api_Edit xs]
theorem f0_eq_S_api_Op : ∀ xs, f0_S_api_Op xs = fl e0_S_api_Op xs
  | [] => by simp [f0_S_api_Op, fl]
  | x :: xs => by rw [f0_S_api_Op, fl_cons, f0_eq_S_api_Op xs]
theorem f0_eq_S_api_KidEdit : ∀ xs, f0_S_api_KidEdit xs = fl e0_S_api_KidEdit xs
  | [] => by simp [f0_S_api_KidEdit, fl]
  | x :: xs => by rw [f0_S_api_KidEdit, fl_cons, f0_eq_S_api_KidEdit xs]
def e_S_api_Edit (x : S_api_Edit) : List G := [.val (.int .i64 x.Kind), .val (.int .i64 x.Old.Kind), .sl x.Old.Words.length (fl (eI .u64) x.Old.Words), .sl x.Old.Kids.length (fl e_S_api_Tree x.Old.Kids), .val (.int .i64 x.New.Kind), .sl x.New.Words.length (fl (eI .u64) x.New.Words), .sl x.New.Kids.length (fl e_S_api_Tree x.New.Kids), .sl x.Words.length (fl e_S_api_WordEdit x.Words), .sl x.Kids.length (fl e0_S_api_KidEdit x.Kids), .val (.int .i64 x.List_), .sl x.Ops.length (fl e0_S_api_Op x.Ops)]
def e_S_api_Op (x : S_api_Op) : List G := [.val (.int .i64 x.Kind), .val (.int .i64 x.N), .sl x.L.length (fl e_S_api_Tree x.L), .val (.int .i64 x.E.Kind), .val (.int .i64 x.E.Old.Kind), .sl x.E.Old.Words.length (fl (eI .u64) x.E.Old.Words), .sl x.E.Old.Kids.length (fl e_S_api_Tree x.E.Old.Kids), .val (.int .i64 x.E.New.Kind), .sl x.E.New.Words.length (fl (eI .u64) x.E.New.Words), .sl x.E.New.Kids.length (fl e_S_api_Tree x.E.New.Kids), .sl x.E.Words.length (fl e_S_api_WordEdit x.E.Words), .sl x.E.Kids.length (fl e0_S_api_KidEdit x.E.Kids), .val (.int .i64 x.E.List_), .sl x.E.Ops.length (fl e0_S_api_Op x.E.Ops)]
def e_S_api_KidEdit (x : S_api_KidEdit) : List G := [.val (.int .i64 x.At), .val (.int .i64 x.E.Kind), .val (.int .i64 x.E.Old.Kind), .sl x.E.Old.Words.length (fl (eI .u64) x.E.Old.Words), .sl x.E.Old.Kids.length (fl e_S_api_Tree x.E.Old.Kids), .val (.int .i64 x.E.New.Kind), .sl x.E.New.Words.length (fl (eI .u64) x.E.New.Words), .sl x.E.New.Kids.length (fl e_S_api_Tree x.E.New.Kids), .sl x.E.Words.length (fl e_S_api_WordEdit x.E.Words), .sl x.E.Kids.length (fl e0_S_api_KidEdit x.E.Kids), .val (.int .i64 x.E.List_), .sl x.E.Ops.length (fl e0_S_api_Op x.E.Ops)]
theorem e0_eq_S_api_Edit : e0_S_api_Edit = e_S_api_Edit := by
  funext x
  obtain ⟨_, _, _, _, _, _, _⟩ := x
  simp only [e0_S_api_Edit, f0_eq_S_api_Edit, e0_S_api_Op, f0_eq_S_api_Op, e0_S_api_KidEdit, f0_eq_S_api_KidEdit, e_S_api_Edit, List.cons_append, List.nil_append, List.append_nil]
theorem e0_eq_S_api_Op : e0_S_api_Op = e_S_api_Op := by
  funext x
  obtain ⟨_, _, _, ⟨_, _, _, _, _, _, _⟩⟩ := x
  simp only [e0_S_api_Edit, f0_eq_S_api_Edit, e0_S_api_Op, f0_eq_S_api_Op, e0_S_api_KidEdit, f0_eq_S_api_KidEdit, e_S_api_Op, List.cons_append, List.nil_append, List.append_nil]
theorem e0_eq_S_api_KidEdit : e0_S_api_KidEdit = e_S_api_KidEdit := by
  funext x
  obtain ⟨_, ⟨_, _, _, _, _, _, _⟩⟩ := x
  simp only [e0_S_api_Edit, f0_eq_S_api_Edit, e0_S_api_Op, f0_eq_S_api_Op, e0_S_api_KidEdit, f0_eq_S_api_KidEdit, e_S_api_KidEdit, List.cons_append, List.nil_append, List.append_nil]
mutual
theorem pu0_S_api_Edit : ∀ x, G.pures (e0_S_api_Edit x) = true
  | ⟨f0, f1, f2, f3, f4, f5, f6⟩ => by simp [e0_S_api_Edit, eP, pure_gP, eI, eB, eS, eL, G.pures, G.pure, pures_app, pures_fl, pul0_S_api_KidEdit f4, pul0_S_api_Op f6, pu_eI_u64, pu_e_S_api_Tree, pue_S_api_Tree, e_S_api_WordEdit]
theorem pul0_S_api_Edit : ∀ xs, G.pures (f0_S_api_Edit xs) = true
  | [] => rfl
  | x :: xs => by simp [f0_S_api_Edit, pures_app, pu0_S_api_Edit x, pul0_S_api_Edit xs]
theorem pu0_S_api_Op : ∀ x, G.pures (e0_S_api_Op x) = true
  | ⟨f0, f1, f2, f3⟩ => by simp [e0_S_api_Op, eP, pure_gP, eI, eB, eS, eL, G.pures, G.pure, pures_app, pures_fl, pu0_S_api_Edit f3, pu_eI_u64, pu_e_S_api_Tree, pue_S_api_Tree, e_S_api_WordEdit]
theorem pul0_S_api_Op : ∀ xs, G.pures (f0_S_api_Op xs) = true
  | [] => rfl
  | x :: xs => by simp [f0_S_api_Op, pures_app, pu0_S_api_Op x, pul0_S_api_Op xs]
theorem pu0_S_api_KidEdit : ∀ x, G.pures (e0_S_api_KidEdit x) = true
  | ⟨f0, f1⟩ => by simp [e0_S_api_KidEdit, eP, pure_gP, eI, eB, eS, eL, G.pures, G.pure, pures_app, pures_fl, pu0_S_api_Edit f1, pu_eI_u64, pu_e_S_api_Tree, pue_S_api_Tree, e_S_api_WordEdit]
theorem pul0_S_api_KidEdit : ∀ xs, G.pures (f0_S_api_KidEdit xs) = true
  | [] => rfl
  | x :: xs => by simp [f0_S_api_KidEdit, pures_app, pu0_S_api_KidEdit x, pul0_S_api_KidEdit xs]
end
theorem pu_e_S_api_WordEdit : ∀ x, G.pures (e_S_api_WordEdit x) = true := fun x => by simp [eI, eB, eS, eL, eP, G.pures, G.pure, pures_fl, pure_gP, e_S_api_WordEdit, pu_eI_u64, pu_e_S_api_Tree, e0_eq_S_api_Tree, e0_eq_S_api_Edit, e0_eq_S_api_Op, e0_eq_S_api_KidEdit]
theorem wkl_e_S_api_WordEdit {O O' : Objs} {n : Nat} (xs : List S_api_WordEdit) : wkl O O' n (fl e_S_api_WordEdit xs) (fl e_S_api_WordEdit xs) := wkl_pure (pures_fl pu_e_S_api_WordEdit xs)
theorem wka_e_S_api_WordEdit {O O' : Objs} {n : Nat} (xs : List S_api_WordEdit) (b b' : List G) : wkl O O' n (fl e_S_api_WordEdit xs ++ b) (fl e_S_api_WordEdit xs ++ b') = wkl O O' n b b' := wkl_same b b' _ (pures_fl pu_e_S_api_WordEdit xs)
theorem len_e_S_api_WordEdit (xs : List S_api_WordEdit) : (fl e_S_api_WordEdit xs).length = xs.length * 4 := fl_length (f := e_S_api_WordEdit) (k := 4) (fun _ => rfl) xs
theorem one_e_S_api_WordEdit (xs : List S_api_WordEdit) : (fl e_S_api_WordEdit xs).all G.one = true := all_one_fl (fun x => by simp [eI, eB, eS, eL, eP, one_gP, G.one, Value.oneCell', e_S_api_WordEdit]) xs
theorem wkp_e_S_api_WordEdit {O O' : Objs} {n : Nat} (x : Option S_api_WordEdit) : wk O O' n (gP e_S_api_WordEdit x) (gP e_S_api_WordEdit x) = True := wk_gP pu_e_S_api_WordEdit x
theorem undp_e_S_api_WordEdit {k : Nat} (x : Option S_api_WordEdit) : (gP e_S_api_WordEdit x).under k = true := under_gP pu_e_S_api_WordEdit k x
theorem rens_e_S_api_WordEdit {ρ : Nat → Nat} (xs : List S_api_WordEdit) : G.rens ρ (fl e_S_api_WordEdit xs) = fl e_S_api_WordEdit xs := rens_pure ρ _ (pures_fl pu_e_S_api_WordEdit xs)
theorem renp_e_S_api_WordEdit {ρ : Nat → Nat} (x : Option S_api_WordEdit) : (gP e_S_api_WordEdit x).ren ρ = gP e_S_api_WordEdit x := ren_pure ρ _ (pure_gP pu_e_S_api_WordEdit x)
theorem und_e_S_api_WordEdit {k : Nat} (xs : List S_api_WordEdit) : G.unders k (fl e_S_api_WordEdit xs) = true := pures_unders _ _ (pures_fl pu_e_S_api_WordEdit xs)
theorem pu_e_S_api_KidEdit : ∀ x, G.pures (e_S_api_KidEdit x) = true := fun x => by rw [← e0_eq_S_api_KidEdit]; exact pu0_S_api_KidEdit x
theorem wkl_e_S_api_KidEdit {O O' : Objs} {n : Nat} (xs : List S_api_KidEdit) : wkl O O' n (fl e_S_api_KidEdit xs) (fl e_S_api_KidEdit xs) := wkl_pure (pures_fl pu_e_S_api_KidEdit xs)
theorem wka_e_S_api_KidEdit {O O' : Objs} {n : Nat} (xs : List S_api_KidEdit) (b b' : List G) : wkl O O' n (fl e_S_api_KidEdit xs ++ b) (fl e_S_api_KidEdit xs ++ b') = wkl O O' n b b' := wkl_same b b' _ (pures_fl pu_e_S_api_KidEdit xs)
theorem len_e_S_api_KidEdit (xs : List S_api_KidEdit) : (fl e_S_api_KidEdit xs).length = xs.length * 12 := fl_length (f := e_S_api_KidEdit) (k := 12) (fun _ => rfl) xs
theorem one_e_S_api_KidEdit (xs : List S_api_KidEdit) : (fl e_S_api_KidEdit xs).all G.one = true := all_one_fl (fun x => by simp [eI, eB, eS, eL, eP, one_gP, G.one, Value.oneCell', e_S_api_KidEdit]) xs
theorem wkp_e_S_api_KidEdit {O O' : Objs} {n : Nat} (x : Option S_api_KidEdit) : wk O O' n (gP e_S_api_KidEdit x) (gP e_S_api_KidEdit x) = True := wk_gP pu_e_S_api_KidEdit x
theorem undp_e_S_api_KidEdit {k : Nat} (x : Option S_api_KidEdit) : (gP e_S_api_KidEdit x).under k = true := under_gP pu_e_S_api_KidEdit k x
theorem rens_e_S_api_KidEdit {ρ : Nat → Nat} (xs : List S_api_KidEdit) : G.rens ρ (fl e_S_api_KidEdit xs) = fl e_S_api_KidEdit xs := rens_pure ρ _ (pures_fl pu_e_S_api_KidEdit xs)
theorem renp_e_S_api_KidEdit {ρ : Nat → Nat} (x : Option S_api_KidEdit) : (gP e_S_api_KidEdit x).ren ρ = gP e_S_api_KidEdit x := ren_pure ρ _ (pure_gP pu_e_S_api_KidEdit x)
theorem und_e_S_api_KidEdit {k : Nat} (xs : List S_api_KidEdit) : G.unders k (fl e_S_api_KidEdit xs) = true := pures_unders _ _ (pures_fl pu_e_S_api_KidEdit xs)
theorem pu_e_S_api_Op : ∀ x, G.pures (e_S_api_Op x) = true := fun x => by rw [← e0_eq_S_api_Op]; exact pu0_S_api_Op x
theorem wkl_e_S_api_Op {O O' : Objs} {n : Nat} (xs : List S_api_Op) : wkl O O' n (fl e_S_api_Op xs) (fl e_S_api_Op xs) := wkl_pure (pures_fl pu_e_S_api_Op xs)
theorem wka_e_S_api_Op {O O' : Objs} {n : Nat} (xs : List S_api_Op) (b b' : List G) : wkl O O' n (fl e_S_api_Op xs ++ b) (fl e_S_api_Op xs ++ b') = wkl O O' n b b' := wkl_same b b' _ (pures_fl pu_e_S_api_Op xs)
theorem len_e_S_api_Op (xs : List S_api_Op) : (fl e_S_api_Op xs).length = xs.length * 14 := fl_length (f := e_S_api_Op) (k := 14) (fun _ => rfl) xs
theorem one_e_S_api_Op (xs : List S_api_Op) : (fl e_S_api_Op xs).all G.one = true := all_one_fl (fun x => by simp [eI, eB, eS, eL, eP, one_gP, G.one, Value.oneCell', e_S_api_Op]) xs
theorem wkp_e_S_api_Op {O O' : Objs} {n : Nat} (x : Option S_api_Op) : wk O O' n (gP e_S_api_Op x) (gP e_S_api_Op x) = True := wk_gP pu_e_S_api_Op x
theorem undp_e_S_api_Op {k : Nat} (x : Option S_api_Op) : (gP e_S_api_Op x).under k = true := under_gP pu_e_S_api_Op k x
theorem rens_e_S_api_Op {ρ : Nat → Nat} (xs : List S_api_Op) : G.rens ρ (fl e_S_api_Op xs) = fl e_S_api_Op xs := rens_pure ρ _ (pures_fl pu_e_S_api_Op xs)
theorem renp_e_S_api_Op {ρ : Nat → Nat} (x : Option S_api_Op) : (gP e_S_api_Op x).ren ρ = gP e_S_api_Op x := ren_pure ρ _ (pure_gP pu_e_S_api_Op x)
theorem und_e_S_api_Op {k : Nat} (xs : List S_api_Op) : G.unders k (fl e_S_api_Op xs) = true := pures_unders _ _ (pures_fl pu_e_S_api_Op xs)
theorem pu_eI_u8 : ∀ x, G.pures ((eI .u8) x) = true := fun x => by simp [eI, eB, eS, eL, eP, G.pures, G.pure, pures_fl, pure_gP, pu_eI_u64, pu_e_S_api_Tree, pu_e_S_api_WordEdit, pu_e_S_api_KidEdit, pu_e_S_api_Op, e0_eq_S_api_Tree, e0_eq_S_api_Edit, e0_eq_S_api_Op, e0_eq_S_api_KidEdit]
theorem wkl_eI_u8 {O O' : Objs} {n : Nat} (xs : List Int) : wkl O O' n (fl (eI .u8) xs) (fl (eI .u8) xs) := wkl_pure (pures_fl pu_eI_u8 xs)
theorem wka_eI_u8 {O O' : Objs} {n : Nat} (xs : List Int) (b b' : List G) : wkl O O' n (fl (eI .u8) xs ++ b) (fl (eI .u8) xs ++ b') = wkl O O' n b b' := wkl_same b b' _ (pures_fl pu_eI_u8 xs)
theorem len_eI_u8 (xs : List Int) : (fl (eI .u8) xs).length = xs.length * 1 := fl_length (f := (eI .u8)) (k := 1) (fun _ => rfl) xs
theorem one_eI_u8 (xs : List Int) : (fl (eI .u8) xs).all G.one = true := all_one_fl (fun x => by simp [eI, eB, eS, eL, eP, one_gP, G.one, Value.oneCell']) xs
theorem wkp_eI_u8 {O O' : Objs} {n : Nat} (x : Option Int) : wk O O' n (gP (eI .u8) x) (gP (eI .u8) x) = True := wk_gP pu_eI_u8 x
theorem undp_eI_u8 {k : Nat} (x : Option Int) : (gP (eI .u8) x).under k = true := under_gP pu_eI_u8 k x
theorem rens_eI_u8 {ρ : Nat → Nat} (xs : List Int) : G.rens ρ (fl (eI .u8) xs) = fl (eI .u8) xs := rens_pure ρ _ (pures_fl pu_eI_u8 xs)
theorem renp_eI_u8 {ρ : Nat → Nat} (x : Option Int) : (gP (eI .u8) x).ren ρ = gP (eI .u8) x := ren_pure ρ _ (pure_gP pu_eI_u8 x)
theorem und_eI_u8 {k : Nat} (xs : List Int) : G.unders k (fl (eI .u8) xs) = true := pures_unders _ _ (pures_fl pu_eI_u8 xs)
def e_S_align_cursor (x : S_align_cursor) : List G := [.sl x.left.length (fl e_S_api_Op x.left), .val (.int .i64 x.gone)]
theorem pu_e_S_align_cursor : ∀ x, G.pures (e_S_align_cursor x) = true := fun x => by simp [eI, eB, eS, eL, eP, G.pures, G.pure, pures_fl, pure_gP, e_S_align_cursor, pu_eI_u64, pu_e_S_api_Tree, pu_e_S_api_WordEdit, pu_e_S_api_KidEdit, pu_e_S_api_Op, pu_eI_u8, e0_eq_S_api_Tree, e0_eq_S_api_Edit, e0_eq_S_api_Op, e0_eq_S_api_KidEdit]
theorem wkl_e_S_align_cursor {O O' : Objs} {n : Nat} (xs : List S_align_cursor) : wkl O O' n (fl e_S_align_cursor xs) (fl e_S_align_cursor xs) := wkl_pure (pures_fl pu_e_S_align_cursor xs)
theorem wka_e_S_align_cursor {O O' : Objs} {n : Nat} (xs : List S_align_cursor) (b b' : List G) : wkl O O' n (fl e_S_align_cursor xs ++ b) (fl e_S_align_cursor xs ++ b') = wkl O O' n b b' := wkl_same b b' _ (pures_fl pu_e_S_align_cursor xs)
theorem len_e_S_align_cursor (xs : List S_align_cursor) : (fl e_S_align_cursor xs).length = xs.length * 2 := fl_length (f := e_S_align_cursor) (k := 2) (fun _ => rfl) xs
theorem one_e_S_align_cursor (xs : List S_align_cursor) : (fl e_S_align_cursor xs).all G.one = true := all_one_fl (fun x => by simp [eI, eB, eS, eL, eP, one_gP, G.one, Value.oneCell', e_S_align_cursor]) xs
theorem wkp_e_S_align_cursor {O O' : Objs} {n : Nat} (x : Option S_align_cursor) : wk O O' n (gP e_S_align_cursor x) (gP e_S_align_cursor x) = True := wk_gP pu_e_S_align_cursor x
theorem undp_e_S_align_cursor {k : Nat} (x : Option S_align_cursor) : (gP e_S_align_cursor x).under k = true := under_gP pu_e_S_align_cursor k x
theorem rens_e_S_align_cursor {ρ : Nat → Nat} (xs : List S_align_cursor) : G.rens ρ (fl e_S_align_cursor xs) = fl e_S_align_cursor xs := rens_pure ρ _ (pures_fl pu_e_S_align_cursor xs)
theorem renp_e_S_align_cursor {ρ : Nat → Nat} (x : Option S_align_cursor) : (gP e_S_align_cursor x).ren ρ = gP e_S_align_cursor x := ren_pure ρ _ (pure_gP pu_e_S_align_cursor x)
theorem und_e_S_align_cursor {k : Nat} (xs : List S_align_cursor) : G.unders k (fl e_S_align_cursor xs) = true := pures_unders _ _ (pures_fl pu_e_S_align_cursor xs)
def e_S_align_Piece (x : S_align_Piece) : List G := [.val (.int .i64 x.Of), .val (.int .i64 x.P.Kind), .val (.int .i64 x.P.N), .sl x.P.L.length (fl e_S_api_Tree x.P.L), .val (.int .i64 x.P.E.Kind), .val (.int .i64 x.P.E.Old.Kind), .sl x.P.E.Old.Words.length (fl (eI .u64) x.P.E.Old.Words), .sl x.P.E.Old.Kids.length (fl e_S_api_Tree x.P.E.Old.Kids), .val (.int .i64 x.P.E.New.Kind), .sl x.P.E.New.Words.length (fl (eI .u64) x.P.E.New.Words), .sl x.P.E.New.Kids.length (fl e_S_api_Tree x.P.E.New.Kids), .sl x.P.E.Words.length (fl e_S_api_WordEdit x.P.E.Words), .sl x.P.E.Kids.length (fl e_S_api_KidEdit x.P.E.Kids), .val (.int .i64 x.P.E.List_), .sl x.P.E.Ops.length (fl e_S_api_Op x.P.E.Ops), .val (.int .i64 x.Q.Kind), .val (.int .i64 x.Q.N), .sl x.Q.L.length (fl e_S_api_Tree x.Q.L), .val (.int .i64 x.Q.E.Kind), .val (.int .i64 x.Q.E.Old.Kind), .sl x.Q.E.Old.Words.length (fl (eI .u64) x.Q.E.Old.Words), .sl x.Q.E.Old.Kids.length (fl e_S_api_Tree x.Q.E.Old.Kids), .val (.int .i64 x.Q.E.New.Kind), .sl x.Q.E.New.Words.length (fl (eI .u64) x.Q.E.New.Words), .sl x.Q.E.New.Kids.length (fl e_S_api_Tree x.Q.E.New.Kids), .sl x.Q.E.Words.length (fl e_S_api_WordEdit x.Q.E.Words), .sl x.Q.E.Kids.length (fl e_S_api_KidEdit x.Q.E.Kids), .val (.int .i64 x.Q.E.List_), .sl x.Q.E.Ops.length (fl e_S_api_Op x.Q.E.Ops)]
theorem pu_e_S_align_Piece : ∀ x, G.pures (e_S_align_Piece x) = true := fun x => by simp [eI, eB, eS, eL, eP, G.pures, G.pure, pures_fl, pure_gP, e_S_align_Piece, pu_eI_u64, pu_e_S_api_Tree, pu_e_S_api_WordEdit, pu_e_S_api_KidEdit, pu_e_S_api_Op, pu_eI_u8, pu_e_S_align_cursor, e0_eq_S_api_Tree, e0_eq_S_api_Edit, e0_eq_S_api_Op, e0_eq_S_api_KidEdit]
theorem wkl_e_S_align_Piece {O O' : Objs} {n : Nat} (xs : List S_align_Piece) : wkl O O' n (fl e_S_align_Piece xs) (fl e_S_align_Piece xs) := wkl_pure (pures_fl pu_e_S_align_Piece xs)
theorem wka_e_S_align_Piece {O O' : Objs} {n : Nat} (xs : List S_align_Piece) (b b' : List G) : wkl O O' n (fl e_S_align_Piece xs ++ b) (fl e_S_align_Piece xs ++ b') = wkl O O' n b b' := wkl_same b b' _ (pures_fl pu_e_S_align_Piece xs)
theorem len_e_S_align_Piece (xs : List S_align_Piece) : (fl e_S_align_Piece xs).length = xs.length * 29 := fl_length (f := e_S_align_Piece) (k := 29) (fun _ => rfl) xs
theorem one_e_S_align_Piece (xs : List S_align_Piece) : (fl e_S_align_Piece xs).all G.one = true := all_one_fl (fun x => by simp [eI, eB, eS, eL, eP, one_gP, G.one, Value.oneCell', e_S_align_Piece]) xs
theorem wkp_e_S_align_Piece {O O' : Objs} {n : Nat} (x : Option S_align_Piece) : wk O O' n (gP e_S_align_Piece x) (gP e_S_align_Piece x) = True := wk_gP pu_e_S_align_Piece x
theorem undp_e_S_align_Piece {k : Nat} (x : Option S_align_Piece) : (gP e_S_align_Piece x).under k = true := under_gP pu_e_S_align_Piece k x
theorem rens_e_S_align_Piece {ρ : Nat → Nat} (xs : List S_align_Piece) : G.rens ρ (fl e_S_align_Piece xs) = fl e_S_align_Piece xs := rens_pure ρ _ (pures_fl pu_e_S_align_Piece xs)
theorem renp_e_S_align_Piece {ρ : Nat → Nat} (x : Option S_align_Piece) : (gP e_S_align_Piece x).ren ρ = gP e_S_align_Piece x := ren_pure ρ _ (pure_gP pu_e_S_align_Piece x)
theorem und_e_S_align_Piece {k : Nat} (xs : List S_align_Piece) : G.unders k (fl e_S_align_Piece xs) = true := pures_unders _ _ (pures_fl pu_e_S_align_Piece xs)
def e_S_centoref24_Unit (x : S_centoref24_Unit) : List G := [.val (.int .i64 x.Step), .val (.int .i64 x.Kind), .val (.int .i64 x.T.Kind), .sl x.T.Words.length (fl (eI .u64) x.T.Words), .sl x.T.Kids.length (fl e_S_api_Tree x.T.Kids), .val (.int .i64 x.E.Kind), .val (.int .i64 x.E.Old.Kind), .sl x.E.Old.Words.length (fl (eI .u64) x.E.Old.Words), .sl x.E.Old.Kids.length (fl e_S_api_Tree x.E.Old.Kids), .val (.int .i64 x.E.New.Kind), .sl x.E.New.Words.length (fl (eI .u64) x.E.New.Words), .sl x.E.New.Kids.length (fl e_S_api_Tree x.E.New.Kids), .sl x.E.Words.length (fl e_S_api_WordEdit x.E.Words), .sl x.E.Kids.length (fl e_S_api_KidEdit x.E.Kids), .val (.int .i64 x.E.List_), .sl x.E.Ops.length (fl e_S_api_Op x.E.Ops), .val (.bool x.Alone)]
theorem pu_e_S_centoref24_Unit : ∀ x, G.pures (e_S_centoref24_Unit x) = true := fun x => by simp [eI, eB, eS, eL, eP, G.pures, G.pure, pures_fl, pure_gP, e_S_centoref24_Unit, pu_eI_u64, pu_e_S_api_Tree, pu_e_S_api_WordEdit, pu_e_S_api_KidEdit, pu_e_S_api_Op, pu_eI_u8, pu_e_S_align_cursor, pu_e_S_align_Piece, e0_eq_S_api_Tree, e0_eq_S_api_Edit, e0_eq_S_api_Op, e0_eq_S_api_KidEdit]
theorem wkl_e_S_centoref24_Unit {O O' : Objs} {n : Nat} (xs : List S_centoref24_Unit) : wkl O O' n (fl e_S_centoref24_Unit xs) (fl e_S_centoref24_Unit xs) := wkl_pure (pures_fl pu_e_S_centoref24_Unit xs)
theorem wka_e_S_centoref24_Unit {O O' : Objs} {n : Nat} (xs : List S_centoref24_Unit) (b b' : List G) : wkl O O' n (fl e_S_centoref24_Unit xs ++ b) (fl e_S_centoref24_Unit xs ++ b') = wkl O O' n b b' := wkl_same b b' _ (pures_fl pu_e_S_centoref24_Unit xs)
theorem len_e_S_centoref24_Unit (xs : List S_centoref24_Unit) : (fl e_S_centoref24_Unit xs).length = xs.length * 17 := fl_length (f := e_S_centoref24_Unit) (k := 17) (fun _ => rfl) xs
theorem one_e_S_centoref24_Unit (xs : List S_centoref24_Unit) : (fl e_S_centoref24_Unit xs).all G.one = true := all_one_fl (fun x => by simp [eI, eB, eS, eL, eP, one_gP, G.one, Value.oneCell', e_S_centoref24_Unit]) xs
theorem wkp_e_S_centoref24_Unit {O O' : Objs} {n : Nat} (x : Option S_centoref24_Unit) : wk O O' n (gP e_S_centoref24_Unit x) (gP e_S_centoref24_Unit x) = True := wk_gP pu_e_S_centoref24_Unit x
theorem undp_e_S_centoref24_Unit {k : Nat} (x : Option S_centoref24_Unit) : (gP e_S_centoref24_Unit x).under k = true := under_gP pu_e_S_centoref24_Unit k x
theorem rens_e_S_centoref24_Unit {ρ : Nat → Nat} (xs : List S_centoref24_Unit) : G.rens ρ (fl e_S_centoref24_Unit xs) = fl e_S_centoref24_Unit xs := rens_pure ρ _ (pures_fl pu_e_S_centoref24_Unit xs)
theorem renp_e_S_centoref24_Unit {ρ : Nat → Nat} (x : Option S_centoref24_Unit) : (gP e_S_centoref24_Unit x).ren ρ = gP e_S_centoref24_Unit x := ren_pure ρ _ (pure_gP pu_e_S_centoref24_Unit x)
theorem und_e_S_centoref24_Unit {k : Nat} (xs : List S_centoref24_Unit) : G.unders k (fl e_S_centoref24_Unit xs) = true := pures_unders _ _ (pures_fl pu_e_S_centoref24_Unit xs)
def e_S_centoref24_Pair (x : S_centoref24_Pair) : List G := [.val (.int .i64 x.Of), .val (.int .i64 x.P.Step), .val (.int .i64 x.P.Kind), .val (.int .i64 x.P.T.Kind), .sl x.P.T.Words.length (fl (eI .u64) x.P.T.Words), .sl x.P.T.Kids.length (fl e_S_api_Tree x.P.T.Kids), .val (.int .i64 x.P.E.Kind), .val (.int .i64 x.P.E.Old.Kind), .sl x.P.E.Old.Words.length (fl (eI .u64) x.P.E.Old.Words), .sl x.P.E.Old.Kids.length (fl e_S_api_Tree x.P.E.Old.Kids), .val (.int .i64 x.P.E.New.Kind), .sl x.P.E.New.Words.length (fl (eI .u64) x.P.E.New.Words), .sl x.P.E.New.Kids.length (fl e_S_api_Tree x.P.E.New.Kids), .sl x.P.E.Words.length (fl e_S_api_WordEdit x.P.E.Words), .sl x.P.E.Kids.length (fl e_S_api_KidEdit x.P.E.Kids), .val (.int .i64 x.P.E.List_), .sl x.P.E.Ops.length (fl e_S_api_Op x.P.E.Ops), .val (.bool x.P.Alone), .val (.int .i64 x.Q.Step), .val (.int .i64 x.Q.Kind), .val (.int .i64 x.Q.T.Kind), .sl x.Q.T.Words.length (fl (eI .u64) x.Q.T.Words), .sl x.Q.T.Kids.length (fl e_S_api_Tree x.Q.T.Kids), .val (.int .i64 x.Q.E.Kind), .val (.int .i64 x.Q.E.Old.Kind), .sl x.Q.E.Old.Words.length (fl (eI .u64) x.Q.E.Old.Words), .sl x.Q.E.Old.Kids.length (fl e_S_api_Tree x.Q.E.Old.Kids), .val (.int .i64 x.Q.E.New.Kind), .sl x.Q.E.New.Words.length (fl (eI .u64) x.Q.E.New.Words), .sl x.Q.E.New.Kids.length (fl e_S_api_Tree x.Q.E.New.Kids), .sl x.Q.E.Words.length (fl e_S_api_WordEdit x.Q.E.Words), .sl x.Q.E.Kids.length (fl e_S_api_KidEdit x.Q.E.Kids), .val (.int .i64 x.Q.E.List_), .sl x.Q.E.Ops.length (fl e_S_api_Op x.Q.E.Ops), .val (.bool x.Q.Alone)]
theorem pu_e_S_centoref24_Pair : ∀ x, G.pures (e_S_centoref24_Pair x) = true := fun x => by simp [eI, eB, eS, eL, eP, G.pures, G.pure, pures_fl, pure_gP, e_S_centoref24_Pair, pu_eI_u64, pu_e_S_api_Tree, pu_e_S_api_WordEdit, pu_e_S_api_KidEdit, pu_e_S_api_Op, pu_eI_u8, pu_e_S_align_cursor, pu_e_S_align_Piece, pu_e_S_centoref24_Unit, e0_eq_S_api_Tree, e0_eq_S_api_Edit, e0_eq_S_api_Op, e0_eq_S_api_KidEdit]
theorem wkl_e_S_centoref24_Pair {O O' : Objs} {n : Nat} (xs : List S_centoref24_Pair) : wkl O O' n (fl e_S_centoref24_Pair xs) (fl e_S_centoref24_Pair xs) := wkl_pure (pures_fl pu_e_S_centoref24_Pair xs)
theorem wka_e_S_centoref24_Pair {O O' : Objs} {n : Nat} (xs : List S_centoref24_Pair) (b b' : List G) : wkl O O' n (fl e_S_centoref24_Pair xs ++ b) (fl e_S_centoref24_Pair xs ++ b') = wkl O O' n b b' := wkl_same b b' _ (pures_fl pu_e_S_centoref24_Pair xs)
theorem len_e_S_centoref24_Pair (xs : List S_centoref24_Pair) : (fl e_S_centoref24_Pair xs).length = xs.length * 35 := fl_length (f := e_S_centoref24_Pair) (k := 35) (fun _ => rfl) xs
theorem one_e_S_centoref24_Pair (xs : List S_centoref24_Pair) : (fl e_S_centoref24_Pair xs).all G.one = true := all_one_fl (fun x => by simp [eI, eB, eS, eL, eP, one_gP, G.one, Value.oneCell', e_S_centoref24_Pair]) xs
theorem wkp_e_S_centoref24_Pair {O O' : Objs} {n : Nat} (x : Option S_centoref24_Pair) : wk O O' n (gP e_S_centoref24_Pair x) (gP e_S_centoref24_Pair x) = True := wk_gP pu_e_S_centoref24_Pair x
theorem undp_e_S_centoref24_Pair {k : Nat} (x : Option S_centoref24_Pair) : (gP e_S_centoref24_Pair x).under k = true := under_gP pu_e_S_centoref24_Pair k x
theorem rens_e_S_centoref24_Pair {ρ : Nat → Nat} (xs : List S_centoref24_Pair) : G.rens ρ (fl e_S_centoref24_Pair xs) = fl e_S_centoref24_Pair xs := rens_pure ρ _ (pures_fl pu_e_S_centoref24_Pair xs)
theorem renp_e_S_centoref24_Pair {ρ : Nat → Nat} (x : Option S_centoref24_Pair) : (gP e_S_centoref24_Pair x).ren ρ = gP e_S_centoref24_Pair x := ren_pure ρ _ (pure_gP pu_e_S_centoref24_Pair x)
theorem und_e_S_centoref24_Pair {k : Nat} (xs : List S_centoref24_Pair) : G.unders k (fl e_S_centoref24_Pair xs) = true := pures_unders _ _ (pures_fl pu_e_S_centoref24_Pair xs)
def c_S_align_Piece (x : S_align_Piece) : List G := [.val (.int .i64 x.Of), .val (.int .i64 x.P.Kind), .val (.int .i64 x.P.N), .sl x.P.L.length (fl e_S_api_Tree x.P.L), .val (.int .i64 x.P.E.Kind), .val (.int .i64 x.P.E.Old.Kind), .sl x.P.E.Old.Words.length (fl (eI .u64) x.P.E.Old.Words), .sl x.P.E.Old.Kids.length (fl e_S_api_Tree x.P.E.Old.Kids), .val (.int .i64 x.P.E.New.Kind), .sl x.P.E.New.Words.length (fl (eI .u64) x.P.E.New.Words), .sl x.P.E.New.Kids.length (fl e_S_api_Tree x.P.E.New.Kids), .sl x.P.E.Words.length (fl e_S_api_WordEdit x.P.E.Words), .sl x.P.E.Kids.length (fl e_S_api_KidEdit x.P.E.Kids), .val (.int .i64 x.P.E.List_), .sl x.P.E.Ops.length (fl e_S_api_Op x.P.E.Ops), .val (.int .i64 x.Q.Kind), .val (.int .i64 x.Q.N), .sl x.Q.L.length (fl e_S_api_Tree x.Q.L), .val (.int .i64 x.Q.E.Kind), .val (.int .i64 x.Q.E.Old.Kind), .sl x.Q.E.Old.Words.length (fl (eI .u64) x.Q.E.Old.Words), .sl x.Q.E.Old.Kids.length (fl e_S_api_Tree x.Q.E.Old.Kids), .val (.int .i64 x.Q.E.New.Kind), .sl x.Q.E.New.Words.length (fl (eI .u64) x.Q.E.New.Words), .sl x.Q.E.New.Kids.length (fl e_S_api_Tree x.Q.E.New.Kids), .sl x.Q.E.Words.length (fl e_S_api_WordEdit x.Q.E.Words), .sl x.Q.E.Kids.length (fl e_S_api_KidEdit x.Q.E.Kids), .val (.int .i64 x.Q.E.List_), .sl x.Q.E.Ops.length (fl e_S_api_Op x.Q.E.Ops)]
def c_S_centoref24_Unit (x : S_centoref24_Unit) : List G := [.val (.int .i64 x.Step), .val (.int .i64 x.Kind), .val (.int .i64 x.T.Kind), .sl x.T.Words.length (fl (eI .u64) x.T.Words), .sl x.T.Kids.length (fl e_S_api_Tree x.T.Kids), .val (.int .i64 x.E.Kind), .val (.int .i64 x.E.Old.Kind), .sl x.E.Old.Words.length (fl (eI .u64) x.E.Old.Words), .sl x.E.Old.Kids.length (fl e_S_api_Tree x.E.Old.Kids), .val (.int .i64 x.E.New.Kind), .sl x.E.New.Words.length (fl (eI .u64) x.E.New.Words), .sl x.E.New.Kids.length (fl e_S_api_Tree x.E.New.Kids), .sl x.E.Words.length (fl e_S_api_WordEdit x.E.Words), .sl x.E.Kids.length (fl e_S_api_KidEdit x.E.Kids), .val (.int .i64 x.E.List_), .sl x.E.Ops.length (fl e_S_api_Op x.E.Ops), .val (.bool x.Alone)]
def c_S_api_Op (x : S_api_Op) : List G := [.val (.int .i64 x.Kind), .val (.int .i64 x.N), .sl x.L.length (fl e_S_api_Tree x.L), .val (.int .i64 x.E.Kind), .val (.int .i64 x.E.Old.Kind), .sl x.E.Old.Words.length (fl (eI .u64) x.E.Old.Words), .sl x.E.Old.Kids.length (fl e_S_api_Tree x.E.Old.Kids), .val (.int .i64 x.E.New.Kind), .sl x.E.New.Words.length (fl (eI .u64) x.E.New.Words), .sl x.E.New.Kids.length (fl e_S_api_Tree x.E.New.Kids), .sl x.E.Words.length (fl e_S_api_WordEdit x.E.Words), .sl x.E.Kids.length (fl e_S_api_KidEdit x.E.Kids), .val (.int .i64 x.E.List_), .sl x.E.Ops.length (fl e_S_api_Op x.E.Ops)]
def c_S_api_KidEdit (x : S_api_KidEdit) : List G := [.val (.int .i64 x.At), .val (.int .i64 x.E.Kind), .val (.int .i64 x.E.Old.Kind), .sl x.E.Old.Words.length (fl (eI .u64) x.E.Old.Words), .sl x.E.Old.Kids.length (fl e_S_api_Tree x.E.Old.Kids), .val (.int .i64 x.E.New.Kind), .sl x.E.New.Words.length (fl (eI .u64) x.E.New.Words), .sl x.E.New.Kids.length (fl e_S_api_Tree x.E.New.Kids), .sl x.E.Words.length (fl e_S_api_WordEdit x.E.Words), .sl x.E.Kids.length (fl e_S_api_KidEdit x.E.Kids), .val (.int .i64 x.E.List_), .sl x.E.Ops.length (fl e_S_api_Op x.E.Ops)]
def c_S_api_Edit (x : S_api_Edit) : List G := [.val (.int .i64 x.Kind), .val (.int .i64 x.Old.Kind), .sl x.Old.Words.length (fl (eI .u64) x.Old.Words), .sl x.Old.Kids.length (fl e_S_api_Tree x.Old.Kids), .val (.int .i64 x.New.Kind), .sl x.New.Words.length (fl (eI .u64) x.New.Words), .sl x.New.Kids.length (fl e_S_api_Tree x.New.Kids), .sl x.Words.length (fl e_S_api_WordEdit x.Words), .sl x.Kids.length (fl e_S_api_KidEdit x.Kids), .val (.int .i64 x.List_), .sl x.Ops.length (fl e_S_api_Op x.Ops)]
def c_S_api_Tree (x : S_api_Tree) : List G := [.val (.int .i64 x.Kind), .sl x.Words.length (fl (eI .u64) x.Words), .sl x.Kids.length (fl e_S_api_Tree x.Kids)]
def c_S_api_WordEdit (x : S_api_WordEdit) : List G := [.val (.int .i64 x.At), .val (.int .u8 x.Mask), .val (.int .u64 x.Old), .val (.int .u64 x.New)]
end Go.Proofs.Ytbcgiaijjaocdaa
