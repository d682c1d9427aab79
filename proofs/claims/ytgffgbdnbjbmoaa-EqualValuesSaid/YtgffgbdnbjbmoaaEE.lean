/- Part EE of this seat's mirrors: functions of the seat's program, and the plain functions that they are; each theorem bears its own conditions. -/
import Derived.Test.YtgffgbdnbjbmoaaTy
import Derived.Test.YtgffgbdnbjbmoaaED
namespace Go.Proofs.Ytgffgbdnbjbmoaa
open Go.RowKit
set_option linter.unusedVariables false
set_option linter.unusedSimpArgs false
set_option maxRecDepth 100000
set_option maxHeartbeats 4000000
def e_S_api_Limits (x : S_api_Limits) : List G := [.val (.int .i64 x.Depth), .val (.int .i64 x.Weight), .val (.int .i64 x.MaxD), .val (.int .i64 x.MaxOut)]

theorem pu_eI_u64 : ∀ x, G.pures ((eI .u64) x) = true := fun x => by simp [eI, eB, eS, eL, eP, G.pures, G.pure, pures_fl, pure_gP]

theorem wkl_eI_u64 {O O' : Objs} {n : Nat} (xs : List Int) : wkl O O' n (fl (eI .u64) xs) (fl (eI .u64) xs) := wkl_pure (pures_fl pu_eI_u64 xs)

theorem wka_eI_u64 {O O' : Objs} {n : Nat} (xs : List Int) (b b' : List G) : wkl O O' n (fl (eI .u64) xs ++ b) (fl (eI .u64) xs ++ b') = wkl O O' n b b' := wkl_same b b' _ (pures_fl pu_eI_u64 xs)

theorem len_eI_u64 (xs : List Int) : (fl (eI .u64) xs).length = xs.length * 1 := fl_length (f := (eI .u64)) (k := 1) (fun _ => rfl) xs

theorem one_eI_u64 (xs : List Int) : (fl (eI .u64) xs).all G.one = true := all_one_fl (fun x => by simp [eI, eB, eS, eL, eP, one_gP, G.one, Value.oneCell']) xs

theorem wkp_eI_u64 {O O' : Objs} {n : Nat} (x : Option Int) : wk O O' n (gP (eI .u64) x) (gP (eI .u64) x) = True := wk_gP pu_eI_u64 x

theorem undp_eI_u64 {k : Nat} (x : Option Int) : (gP (eI .u64) x).under k = true := under_gP pu_eI_u64 k x

theorem rens_eI_u64 {ρ : Nat → Nat} (xs : List Int) : G.rens ρ (fl (eI .u64) xs) = fl (eI .u64) xs := rens_pure ρ _ (pures_fl pu_eI_u64 xs)

theorem renp_eI_u64 {ρ : Nat → Nat} (x : Option Int) : (gP (eI .u64) x).ren ρ = gP (eI .u64) x := ren_pure ρ _ (pure_gP pu_eI_u64 x)

theorem und_eI_u64 {k : Nat} (xs : List Int) : G.unders k (fl (eI .u64) xs) = true := pures_unders _ _ (pures_fl pu_eI_u64 xs)

theorem pu_eL_eI_u64 : ∀ x, G.pures ((eL (eI .u64)) x) = true := fun x => by simp [eI, eB, eS, eL, eP, G.pures, G.pure, pures_fl, pure_gP, pu_eI_u64]

theorem wkl_eL_eI_u64 {O O' : Objs} {n : Nat} (xs : List (List Int)) : wkl O O' n (fl (eL (eI .u64)) xs) (fl (eL (eI .u64)) xs) := wkl_pure (pures_fl pu_eL_eI_u64 xs)

theorem wka_eL_eI_u64 {O O' : Objs} {n : Nat} (xs : List (List Int)) (b b' : List G) : wkl O O' n (fl (eL (eI .u64)) xs ++ b) (fl (eL (eI .u64)) xs ++ b') = wkl O O' n b b' := wkl_same b b' _ (pures_fl pu_eL_eI_u64 xs)

theorem len_eL_eI_u64 (xs : List (List Int)) : (fl (eL (eI .u64)) xs).length = xs.length * 1 := fl_length (f := (eL (eI .u64))) (k := 1) (fun _ => rfl) xs

theorem one_eL_eI_u64 (xs : List (List Int)) : (fl (eL (eI .u64)) xs).all G.one = true := all_one_fl (fun x => by simp [eI, eB, eS, eL, eP, one_gP, G.one, Value.oneCell']) xs

theorem wkp_eL_eI_u64 {O O' : Objs} {n : Nat} (x : Option (List Int)) : wk O O' n (gP (eL (eI .u64)) x) (gP (eL (eI .u64)) x) = True := wk_gP pu_eL_eI_u64 x

theorem undp_eL_eI_u64 {k : Nat} (x : Option (List Int)) : (gP (eL (eI .u64)) x).under k = true := under_gP pu_eL_eI_u64 k x

theorem rens_eL_eI_u64 {ρ : Nat → Nat} (xs : List (List Int)) : G.rens ρ (fl (eL (eI .u64)) xs) = fl (eL (eI .u64)) xs := rens_pure ρ _ (pures_fl pu_eL_eI_u64 xs)

theorem renp_eL_eI_u64 {ρ : Nat → Nat} (x : Option (List Int)) : (gP (eL (eI .u64)) x).ren ρ = gP (eL (eI .u64)) x := ren_pure ρ _ (pure_gP pu_eL_eI_u64 x)

theorem und_eL_eI_u64 {k : Nat} (xs : List (List Int)) : G.unders k (fl (eL (eI .u64)) xs) = true := pures_unders _ _ (pures_fl pu_eL_eI_u64 xs)

def e_S_ptr_Ptr (x : S_ptr_Ptr) : List G := [.val (.int .i64 x.Kind), .val (.int .i64 x.Off), .val (.int .i64 x.Data), .val (.int .i64 x.Ptrs), .val (.int .i64 x.Code), .val (.int .i64 x.Count), .val (.int .i64 x.Segment), .val (.bool x.Double)]

def e_S_centoref06_Loc (x : S_centoref06_Loc) : List G := [.val (.int .i64 x.P.Kind), .val (.int .i64 x.P.Off), .val (.int .i64 x.P.Data), .val (.int .i64 x.P.Ptrs), .val (.int .i64 x.P.Code), .val (.int .i64 x.P.Count), .val (.int .i64 x.P.Segment), .val (.bool x.P.Double), .val (.int .i64 x.Segment), .val (.int .i64 x.At)]

def e_S_centoref09_Ref (x : S_centoref09_Ref) : List G := [.val (.int .i64 x.Kind), .val (.int .i64 x.S), .val (.int .i64 x.At), .val (.int .i64 x.Data), .val (.int .i64 x.Ptrs), .val (.int .i64 x.Count), .val (.int .u64 x.N)]

mutual
def e0_S_api_Tree : S_api_Tree → List G
  | ⟨f0, f1, f2⟩ => [.val (.int .i64 f0), .sl f1.length (fl (eI .u64) f1), .sl f2.length (f0_S_api_Tree f2)]
def f0_S_api_Tree : List S_api_Tree → List G
  | [] => []
  | x :: xs => e0_S_api_Tree x ++ f0_S_api_Tree xs
end

theorem f0_eq_S_api_Tree : ∀ xs, f0_S_api_Tree xs = fl e0_S_api_Tree xs
  | [] => by simp [f0_S_api_Tree, fl]
  | x :: xs => by rw [f0_S_api_Tree, fl_cons, f0_eq_S_api_Tree xs]

def e_S_api_Tree (x : S_api_Tree) : List G := [.val (.int .i64 x.Kind), .sl x.Words.length (fl (eI .u64) x.Words), .sl x.Kids.length (fl e0_S_api_Tree x.Kids)]

theorem e0_eq_S_api_Tree : e0_S_api_Tree = e_S_api_Tree := by
  funext x
  obtain ⟨_, _, _⟩ := x
  simp only [e0_S_api_Tree, f0_eq_S_api_Tree, e_S_api_Tree, List.cons_append, List.nil_append, List.append_nil]

mutual
theorem pu0_S_api_Tree : ∀ x, G.pures (e0_S_api_Tree x) = true
  | ⟨f0, f1, f2⟩ => by simp [e0_S_api_Tree, eP, pure_gP, eI, eB, eS, eL, G.pures, G.pure, pures_app, pures_fl, pul0_S_api_Tree f2, pu_eI_u64, pu_eL_eI_u64]
theorem pul0_S_api_Tree : ∀ xs, G.pures (f0_S_api_Tree xs) = true
  | [] => rfl
  | x :: xs => by simp [f0_S_api_Tree, pures_app, pu0_S_api_Tree x, pul0_S_api_Tree xs]
end

theorem pue_S_api_Tree : ∀ x, G.pures (e_S_api_Tree x) = true := fun x => by rw [← e0_eq_S_api_Tree]; exact pu0_S_api_Tree x

theorem pu_e_S_api_Tree : ∀ x, G.pures (e_S_api_Tree x) = true := fun x => by rw [← e0_eq_S_api_Tree]; exact pu0_S_api_Tree x

theorem wkl_e_S_api_Tree {O O' : Objs} {n : Nat} (xs : List S_api_Tree) : wkl O O' n (fl e_S_api_Tree xs) (fl e_S_api_Tree xs) := wkl_pure (pures_fl pu_e_S_api_Tree xs)

theorem wka_e_S_api_Tree {O O' : Objs} {n : Nat} (xs : List S_api_Tree) (b b' : List G) : wkl O O' n (fl e_S_api_Tree xs ++ b) (fl e_S_api_Tree xs ++ b') = wkl O O' n b b' := wkl_same b b' _ (pures_fl pu_e_S_api_Tree xs)

theorem len_e_S_api_Tree (xs : List S_api_Tree) : (fl e_S_api_Tree xs).length = xs.length * 3 := fl_length (f := e_S_api_Tree) (k := 3) (fun _ => rfl) xs

theorem one_e_S_api_Tree (xs : List S_api_Tree) : (fl e_S_api_Tree xs).all G.one = true := all_one_fl (fun x => by simp [eI, eB, eS, eL, eP, one_gP, G.one, Value.oneCell', e_S_api_Tree]) xs

theorem wkp_e_S_api_Tree {O O' : Objs} {n : Nat} (x : Option S_api_Tree) : wk O O' n (gP e_S_api_Tree x) (gP e_S_api_Tree x) = True := wk_gP pu_e_S_api_Tree x

theorem undp_e_S_api_Tree {k : Nat} (x : Option S_api_Tree) : (gP e_S_api_Tree x).under k = true := under_gP pu_e_S_api_Tree k x

theorem rens_e_S_api_Tree {ρ : Nat → Nat} (xs : List S_api_Tree) : G.rens ρ (fl e_S_api_Tree xs) = fl e_S_api_Tree xs := rens_pure ρ _ (pures_fl pu_e_S_api_Tree xs)

theorem renp_e_S_api_Tree {ρ : Nat → Nat} (x : Option S_api_Tree) : (gP e_S_api_Tree x).ren ρ = gP e_S_api_Tree x := ren_pure ρ _ (pure_gP pu_e_S_api_Tree x)

theorem und_e_S_api_Tree {k : Nat} (xs : List S_api_Tree) : G.unders k (fl e_S_api_Tree xs) = true := pures_unders _ _ (pures_fl pu_e_S_api_Tree xs)

def e_S_arena_Arena (x : S_arena_Arena) : List G := [.sl x.segments.length (fl (eL (eI .u64)) x.segments), .val (.int .i64 x.size), .val (.int .i64 x.left)]

theorem pu_e_S_arena_Arena : ∀ x, G.pures (e_S_arena_Arena x) = true := fun x => by simp [eI, eB, eS, eL, eP, G.pures, G.pure, pures_fl, pure_gP, e_S_arena_Arena, pu_eI_u64, pu_eL_eI_u64, pu_e_S_api_Tree, e0_eq_S_api_Tree]

theorem wkl_e_S_arena_Arena {O O' : Objs} {n : Nat} (xs : List S_arena_Arena) : wkl O O' n (fl e_S_arena_Arena xs) (fl e_S_arena_Arena xs) := wkl_pure (pures_fl pu_e_S_arena_Arena xs)

theorem wka_e_S_arena_Arena {O O' : Objs} {n : Nat} (xs : List S_arena_Arena) (b b' : List G) : wkl O O' n (fl e_S_arena_Arena xs ++ b) (fl e_S_arena_Arena xs ++ b') = wkl O O' n b b' := wkl_same b b' _ (pures_fl pu_e_S_arena_Arena xs)

theorem len_e_S_arena_Arena (xs : List S_arena_Arena) : (fl e_S_arena_Arena xs).length = xs.length * 3 := fl_length (f := e_S_arena_Arena) (k := 3) (fun _ => rfl) xs

theorem one_e_S_arena_Arena (xs : List S_arena_Arena) : (fl e_S_arena_Arena xs).all G.one = true := all_one_fl (fun x => by simp [eI, eB, eS, eL, eP, one_gP, G.one, Value.oneCell', e_S_arena_Arena]) xs

theorem wkp_e_S_arena_Arena {O O' : Objs} {n : Nat} (x : Option S_arena_Arena) : wk O O' n (gP e_S_arena_Arena x) (gP e_S_arena_Arena x) = True := wk_gP pu_e_S_arena_Arena x

theorem undp_e_S_arena_Arena {k : Nat} (x : Option S_arena_Arena) : (gP e_S_arena_Arena x).under k = true := under_gP pu_e_S_arena_Arena k x

theorem rens_e_S_arena_Arena {ρ : Nat → Nat} (xs : List S_arena_Arena) : G.rens ρ (fl e_S_arena_Arena xs) = fl e_S_arena_Arena xs := rens_pure ρ _ (pures_fl pu_e_S_arena_Arena xs)

theorem renp_e_S_arena_Arena {ρ : Nat → Nat} (x : Option S_arena_Arena) : (gP e_S_arena_Arena x).ren ρ = gP e_S_arena_Arena x := ren_pure ρ _ (pure_gP pu_e_S_arena_Arena x)

theorem und_e_S_arena_Arena {k : Nat} (xs : List S_arena_Arena) : G.unders k (fl e_S_arena_Arena xs) = true := pures_unders _ _ (pures_fl pu_e_S_arena_Arena xs)

theorem pu_eI_i64 : ∀ x, G.pures ((eI .i64) x) = true := fun x => by simp [eI, eB, eS, eL, eP, G.pures, G.pure, pures_fl, pure_gP, pu_eI_u64, pu_eL_eI_u64, pu_e_S_api_Tree, pu_e_S_arena_Arena, e0_eq_S_api_Tree]

theorem wkl_eI_i64 {O O' : Objs} {n : Nat} (xs : List Int) : wkl O O' n (fl (eI .i64) xs) (fl (eI .i64) xs) := wkl_pure (pures_fl pu_eI_i64 xs)

theorem wka_eI_i64 {O O' : Objs} {n : Nat} (xs : List Int) (b b' : List G) : wkl O O' n (fl (eI .i64) xs ++ b) (fl (eI .i64) xs ++ b') = wkl O O' n b b' := wkl_same b b' _ (pures_fl pu_eI_i64 xs)

theorem len_eI_i64 (xs : List Int) : (fl (eI .i64) xs).length = xs.length * 1 := fl_length (f := (eI .i64)) (k := 1) (fun _ => rfl) xs

theorem one_eI_i64 (xs : List Int) : (fl (eI .i64) xs).all G.one = true := all_one_fl (fun x => by simp [eI, eB, eS, eL, eP, one_gP, G.one, Value.oneCell']) xs

theorem wkp_eI_i64 {O O' : Objs} {n : Nat} (x : Option Int) : wk O O' n (gP (eI .i64) x) (gP (eI .i64) x) = True := wk_gP pu_eI_i64 x

theorem undp_eI_i64 {k : Nat} (x : Option Int) : (gP (eI .i64) x).under k = true := under_gP pu_eI_i64 k x

theorem rens_eI_i64 {ρ : Nat → Nat} (xs : List Int) : G.rens ρ (fl (eI .i64) xs) = fl (eI .i64) xs := rens_pure ρ _ (pures_fl pu_eI_i64 xs)

theorem renp_eI_i64 {ρ : Nat → Nat} (x : Option Int) : (gP (eI .i64) x).ren ρ = gP (eI .i64) x := ren_pure ρ _ (pure_gP pu_eI_i64 x)

theorem und_eI_i64 {k : Nat} (xs : List Int) : G.unders k (fl (eI .i64) xs) = true := pures_unders _ _ (pures_fl pu_eI_i64 xs)

def e_S_far_Loc (x : S_far_Loc) : List G := [.val (.int .i64 x.P.Kind), .val (.int .i64 x.P.Off), .val (.int .i64 x.P.Data), .val (.int .i64 x.P.Ptrs), .val (.int .i64 x.P.Code), .val (.int .i64 x.P.Count), .val (.int .i64 x.P.Segment), .val (.bool x.P.Double), .val (.int .i64 x.Segment), .val (.int .i64 x.At)]

def e_S_reader_Ref (x : S_reader_Ref) : List G := [(gP e_S_arena_Arena x.a), .val (.int .i64 x.kind), .val (.int .i64 x.segment), .val (.int .i64 x.at_), .val (.int .i64 x.words), .val (.int .i64 x.ptrs), .val (.int .i64 x.count), .val (.int .i64 x.code), .val (.int .i64 x.index)]

def e_S_equal_comparer (x : S_equal_comparer) : List G := [.val (.int .i64 x.left)]

theorem pu_e_S_equal_comparer : ∀ x, G.pures (e_S_equal_comparer x) = true := fun x => by simp [eI, eB, eS, eL, eP, G.pures, G.pure, pures_fl, pure_gP, e_S_equal_comparer, pu_eI_u64, pu_eL_eI_u64, pu_e_S_api_Tree, pu_e_S_arena_Arena, pu_eI_i64, e0_eq_S_api_Tree]

theorem wkl_e_S_equal_comparer {O O' : Objs} {n : Nat} (xs : List S_equal_comparer) : wkl O O' n (fl e_S_equal_comparer xs) (fl e_S_equal_comparer xs) := wkl_pure (pures_fl pu_e_S_equal_comparer xs)

theorem wka_e_S_equal_comparer {O O' : Objs} {n : Nat} (xs : List S_equal_comparer) (b b' : List G) : wkl O O' n (fl e_S_equal_comparer xs ++ b) (fl e_S_equal_comparer xs ++ b') = wkl O O' n b b' := wkl_same b b' _ (pures_fl pu_e_S_equal_comparer xs)

theorem len_e_S_equal_comparer (xs : List S_equal_comparer) : (fl e_S_equal_comparer xs).length = xs.length * 1 := fl_length (f := e_S_equal_comparer) (k := 1) (fun _ => rfl) xs

theorem one_e_S_equal_comparer (xs : List S_equal_comparer) : (fl e_S_equal_comparer xs).all G.one = true := all_one_fl (fun x => by simp [eI, eB, eS, eL, eP, one_gP, G.one, Value.oneCell', e_S_equal_comparer]) xs

theorem wkp_e_S_equal_comparer {O O' : Objs} {n : Nat} (x : Option S_equal_comparer) : wk O O' n (gP e_S_equal_comparer x) (gP e_S_equal_comparer x) = True := wk_gP pu_e_S_equal_comparer x

theorem undp_e_S_equal_comparer {k : Nat} (x : Option S_equal_comparer) : (gP e_S_equal_comparer x).under k = true := under_gP pu_e_S_equal_comparer k x

theorem rens_e_S_equal_comparer {ρ : Nat → Nat} (xs : List S_equal_comparer) : G.rens ρ (fl e_S_equal_comparer xs) = fl e_S_equal_comparer xs := rens_pure ρ _ (pures_fl pu_e_S_equal_comparer xs)

theorem renp_e_S_equal_comparer {ρ : Nat → Nat} (x : Option S_equal_comparer) : (gP e_S_equal_comparer x).ren ρ = gP e_S_equal_comparer x := ren_pure ρ _ (pure_gP pu_e_S_equal_comparer x)

theorem und_e_S_equal_comparer {k : Nat} (xs : List S_equal_comparer) : G.unders k (fl e_S_equal_comparer xs) = true := pures_unders _ _ (pures_fl pu_e_S_equal_comparer xs)

def e_S_equal_hasher (x : S_equal_hasher) : List G := [.val (.int .u64 x.sum), .val (.int .i64 x.left)]

theorem pu_e_S_equal_hasher : ∀ x, G.pures (e_S_equal_hasher x) = true := fun x => by simp [eI, eB, eS, eL, eP, G.pures, G.pure, pures_fl, pure_gP, e_S_equal_hasher, pu_eI_u64, pu_eL_eI_u64, pu_e_S_api_Tree, pu_e_S_arena_Arena, pu_eI_i64, pu_e_S_equal_comparer, e0_eq_S_api_Tree]

theorem wkl_e_S_equal_hasher {O O' : Objs} {n : Nat} (xs : List S_equal_hasher) : wkl O O' n (fl e_S_equal_hasher xs) (fl e_S_equal_hasher xs) := wkl_pure (pures_fl pu_e_S_equal_hasher xs)

theorem wka_e_S_equal_hasher {O O' : Objs} {n : Nat} (xs : List S_equal_hasher) (b b' : List G) : wkl O O' n (fl e_S_equal_hasher xs ++ b) (fl e_S_equal_hasher xs ++ b') = wkl O O' n b b' := wkl_same b b' _ (pures_fl pu_e_S_equal_hasher xs)

theorem len_e_S_equal_hasher (xs : List S_equal_hasher) : (fl e_S_equal_hasher xs).length = xs.length * 2 := fl_length (f := e_S_equal_hasher) (k := 2) (fun _ => rfl) xs

theorem one_e_S_equal_hasher (xs : List S_equal_hasher) : (fl e_S_equal_hasher xs).all G.one = true := all_one_fl (fun x => by simp [eI, eB, eS, eL, eP, one_gP, G.one, Value.oneCell', e_S_equal_hasher]) xs

theorem wkp_e_S_equal_hasher {O O' : Objs} {n : Nat} (x : Option S_equal_hasher) : wk O O' n (gP e_S_equal_hasher x) (gP e_S_equal_hasher x) = True := wk_gP pu_e_S_equal_hasher x

theorem undp_e_S_equal_hasher {k : Nat} (x : Option S_equal_hasher) : (gP e_S_equal_hasher x).under k = true := under_gP pu_e_S_equal_hasher k x

theorem rens_e_S_equal_hasher {ρ : Nat → Nat} (xs : List S_equal_hasher) : G.rens ρ (fl e_S_equal_hasher xs) = fl e_S_equal_hasher xs := rens_pure ρ _ (pures_fl pu_e_S_equal_hasher xs)

theorem renp_e_S_equal_hasher {ρ : Nat → Nat} (x : Option S_equal_hasher) : (gP e_S_equal_hasher x).ren ρ = gP e_S_equal_hasher x := ren_pure ρ _ (pure_gP pu_e_S_equal_hasher x)

theorem und_e_S_equal_hasher {k : Nat} (xs : List S_equal_hasher) : G.unders k (fl e_S_equal_hasher xs) = true := pures_unders _ _ (pures_fl pu_e_S_equal_hasher xs)

def c_S_reader_Ref (x : S_reader_Ref) : List G := [(gP e_S_arena_Arena x.a), .val (.int .i64 x.kind), .val (.int .i64 x.segment), .val (.int .i64 x.at_), .val (.int .i64 x.words), .val (.int .i64 x.ptrs), .val (.int .i64 x.count), .val (.int .i64 x.code), .val (.int .i64 x.index)]
def c_S_ptr_Ptr (x : S_ptr_Ptr) : List G := [.val (.int .i64 x.Kind), .val (.int .i64 x.Off), .val (.int .i64 x.Data), .val (.int .i64 x.Ptrs), .val (.int .i64 x.Code), .val (.int .i64 x.Count), .val (.int .i64 x.Segment), .val (.bool x.Double)]
def c_S_centoref09_Ref (x : S_centoref09_Ref) : List G := [.val (.int .i64 x.Kind), .val (.int .i64 x.S), .val (.int .i64 x.At), .val (.int .i64 x.Data), .val (.int .i64 x.Ptrs), .val (.int .i64 x.Count), .val (.int .u64 x.N)]
def c_S_api_Tree (x : S_api_Tree) : List G := [.val (.int .i64 x.Kind), .sl x.Words.length (fl (eI .u64) x.Words), .sl x.Kids.length (fl e_S_api_Tree x.Kids)]
def c_S_api_Limits (x : S_api_Limits) : List G := [.val (.int .i64 x.Depth), .val (.int .i64 x.Weight), .val (.int .i64 x.MaxD), .val (.int .i64 x.MaxOut)]

abbrev vI (x : Int) : G := .val (.int .i64 x)
abbrev vB (x : Bool) : G := .val (.bool x)
abbrev nV : G := .val (.slice none 0 0)
abbrev sL {α : Type} (e : α → List G) (x : List α) : G := .sl x.length (fl e x)
abbrev oR {α : Type} (t s : Nat) (e : α → List G) (x : List α) : GObj := ⟨true, t, s, x.length, fl e x⟩

theorem zFn {f : FuncId} {gs : List G} {O O2 : Objs} {n n2 : Nat} {r : G} {fn : Func} {c : Code} (hc : ∀ args w, (callFunc f args).run Try.prog w = .ok (.enter f args) w) (hf : Try.prog.funcs[f]? = some fn) (h : Und O n → O n = none → (∀ k, O (n + k) = none) → W Try.prog n c (Fin tab fn.results.toList r n O2 n2) ⟨fn.ntmps, [], genv 0 gs⟩ (Loc O n []) n) (hb : fn.body = some c := by exact rfl) (hn : gs.length ≤ fn.ntmps := by exact Nat.le_of_ble_eq_true rfl) (h2 : n ≤ n2 := by first | exact Nat.le_refl _ | omega) : GTo Try.prog f gs O n r O2 n2 := fn_of tab_ok hc hf hb hn h2 fun hU => h hU (hU.fresh _ (Nat.le_refl _)) fun k => hU.fresh _ (Nat.le_add_right _ _)
structure Hid (p : Prop) : Prop where
  get : p
structure Ar {α : Type} (a : α) : Prop where
def Ar.v {α : Type} {a : α} (_ : Ar a) : α := a
theorem zQ {A B : Prop} (l0 : List Nat) (b : B) (e : Ar l0 → Hid B → A := by intro x0 bZ; refine W_sq x0.v (W_regionD tab_ok [] ?_); simp only [push_cast, seval, ↓reduceIte, cast_lit, Ar.v, hN0, hN]; exact bZ.get) : A := e ⟨⟩ ⟨b⟩
theorem zR {A B : Prop} (b : B) (e : Hid B → A := by intro bZ; refine W_regionD tab_ok [] ?_; simp only [push_cast, seval, ↓reduceIte, cast_lit, hN0, hN]; exact bZ.get) : A := e ⟨b⟩
theorem zEn {A : Prop} {P0 : Prop} (p0 : P0) (e : P0 → A := by intro x0; have h9 := Option.some.inj x0; subst h9; refine And.intro rfl (Fit2.of (fit_loc hU rfl rfl ?_) (by omega)); simp only [push_cast, seval, ↓reduceIte, cast_lit, hN0, hN]) : A := e p0
theorem zK {A B : Prop} (b : B) (e : Hid B → A := by intro bZ; refine W_skip ?_; (try simp only [gthen, gblock]); exact bZ.get) : A := e ⟨b⟩
theorem zRd {A B : Prop} (l0 : List Nat) (l1 : List Bool) (b : B) (e : Ar l0 → Ar l1 → Hid B → A := by intro x0 x1 bZ; refine W_regionD tab_ok [] ?_; simp only [push_cast, seval, ↓reduceIte, cast_lit, hN0, hN]; refine W_drop x0.v x1.v ?_; simp only [push_cast, seval, ↓reduceIte, Ar.v]; exact bZ.get) : A := e ⟨⟩ ⟨⟩ ⟨b⟩
theorem zRet {A : Prop} (l0 : List G) (e : Ar l0 → A := by intro x0; refine W_ret ?_; (try simp only [gthen, gblock]); have h := Option.some.inj h; subst h; refine fin_loc (.inr rfl) hU x0.v (by omega) ?_; simp only [push_cast, seval, ↓reduceIte, cast_lit, Ar.v, hN0, hN]) : A := e ⟨⟩
theorem zKd {A B : Prop} (l0 : List Nat) (l1 : List Bool) (b : B) (e : Ar l0 → Ar l1 → Hid B → A := by intro x0 x1 bZ; refine W_skip ?_; (try simp only [gthen, gblock]); refine W_drop x0.v x1.v ?_; simp only [push_cast, seval, ↓reduceIte, Ar.v]; exact bZ.get) : A := e ⟨⟩ ⟨⟩ ⟨b⟩
theorem zS {A B : Prop} (b : B) (e : Hid B → A := by intro bZ; simp only [push_cast, seval, ↓reduceIte, cast_lit, hN0, hN]; exact bZ.get) : A := e ⟨b⟩
theorem zD {A B : Prop} (l0 : List Nat) (l1 : List Bool) (b : B) (e : Ar l0 → Ar l1 → Hid B → A := by intro x0 x1 bZ; refine W_drop x0.v x1.v ?_; simp only [push_cast, seval, ↓reduceIte, Ar.v]; exact bZ.get) : A := e ⟨⟩ ⟨⟩ ⟨b⟩
theorem zRof6 {A B : Prop} (l0 : List (Option Bool)) {P1 : Prop} (p1 : P1) {P2 : Prop} (p2 : P2) {P3 : Prop} (p3 : P3) {P4 : Prop} (p4 : P4) {P5 : Prop} (p5 : P5) {P6 : Prop} (p6 : P6) (b : B) (e : Ar l0 → P1 → P2 → P3 → P4 → P5 → P6 → Hid B → A := by intro x0 x1 x2 x3 x4 x5 x6 bZ; refine W_regionD tab_ok x0.v ?_; simp only [push_cast, Nat.reduceAdd, Nat.reduceSub, Nat.reduceMul, Nat.reduceLeDiff, Nat.reduceLT, Nat.reduceEqDiff, ↓reduceIte, reduceCtorEq, Int.reduceBEq, Int.reduceBNe, Nat.reduceBEq, Int.reduceLE, Int.reduceLT, Int.reduceEq, Int.reduceNe, Int.reduceNeg, Nat.reduceDiv, Nat.reduceMod, Nat.reducePow, cast_lit, Ar.v, x1, x2, x3, x4, x5, x6, hN0, hN]; exact bZ.get) : A := e ⟨⟩ p1 p2 p3 p4 p5 p6 ⟨b⟩
theorem zG {A B : Prop} (b : B) (e : Hid B → A := by intro bZ; (repeat (with_reducible refine And.intro (by first | (intro h0; simp only [h0, and_self]; done) | (intro h0; simp only [h0, Bool.not_false, Bool.not_true, Bool.true_and, Bool.and_true, true_and, and_true, and_self, imp_self, implies_true, bne_iff_ne, ne_eq, beq_iff_eq]; done) | (intros; simp_all; done) | exact True.intro) ?_)); exact bZ.get) : A := e ⟨b⟩
theorem zEnf6 {A : Prop} {P0 : Prop} (p0 : P0) {P1 : Prop} (p1 : P1) {P2 : Prop} (p2 : P2) {P3 : Prop} (p3 : P3) {P4 : Prop} (p4 : P4) {P5 : Prop} (p5 : P5) {P6 : Prop} (p6 : P6) (e : P0 → P1 → P2 → P3 → P4 → P5 → P6 → A := by intro x0 x1 x2 x3 x4 x5 x6; have h9 := Option.some.inj x0; subst h9; refine And.intro rfl (Fit2.of (fit_loc hU rfl rfl ?_) (by omega)); simp only [push_cast, Nat.reduceAdd, Nat.reduceSub, Nat.reduceMul, Nat.reduceLeDiff, Nat.reduceLT, Nat.reduceEqDiff, ↓reduceIte, reduceCtorEq, Int.reduceBEq, Int.reduceBNe, Nat.reduceBEq, Int.reduceLE, Int.reduceLT, Int.reduceEq, Int.reduceNe, Int.reduceNeg, Nat.reduceDiv, Nat.reduceMod, Nat.reducePow, cast_lit, x1, x2, x3, x4, x5, x6, hN0, hN]) : A := e p0 p1 p2 p3 p4 p5 p6
theorem zRox3 {A B : Prop} (l0 : List (Option Bool)) {P1 : Prop} (p1 : P1) {P2 : Prop} (p2 : P2) {P3 : Prop} (p3 : P3) (b : B) (e : Ar l0 → P1 → P2 → P3 → Hid B → A := by intro x0 x1 x2 x3 bZ; refine W_regionD tab_ok x0.v ?_; simp only [push_cast, seval, ↓reduceIte, cast_lit, Ar.v, x1, x2, x3, hN0, hN]; exact bZ.get) : A := e ⟨⟩ p1 p2 p3 ⟨b⟩
theorem zEnx3 {A : Prop} {P0 : Prop} (p0 : P0) {P1 : Prop} (p1 : P1) {P2 : Prop} (p2 : P2) {P3 : Prop} (p3 : P3) (e : P0 → P1 → P2 → P3 → A := by intro x0 x1 x2 x3; have h9 := Option.some.inj x0; subst h9; refine And.intro rfl (Fit2.of (fit_loc hU rfl rfl ?_) (by omega)); simp only [push_cast, seval, ↓reduceIte, cast_lit, x1, x2, x3, hN0, hN]) : A := e p0 p1 p2 p3
theorem zRox2 {A B : Prop} (l0 : List (Option Bool)) {P1 : Prop} (p1 : P1) {P2 : Prop} (p2 : P2) (b : B) (e : Ar l0 → P1 → P2 → Hid B → A := by intro x0 x1 x2 bZ; refine W_regionD tab_ok x0.v ?_; simp only [push_cast, seval, ↓reduceIte, cast_lit, Ar.v, x1, x2, hN0, hN]; exact bZ.get) : A := e ⟨⟩ p1 p2 ⟨b⟩
theorem zEnx2 {A : Prop} {P0 : Prop} (p0 : P0) {P1 : Prop} (p1 : P1) {P2 : Prop} (p2 : P2) (e : P0 → P1 → P2 → A := by intro x0 x1 x2; have h9 := Option.some.inj x0; subst h9; refine And.intro rfl (Fit2.of (fit_loc hU rfl rfl ?_) (by omega)); simp only [push_cast, seval, ↓reduceIte, cast_lit, x1, x2, hN0, hN]) : A := e p0 p1 p2
theorem zRox1 {A B : Prop} (l0 : List (Option Bool)) {P1 : Prop} (p1 : P1) (b : B) (e : Ar l0 → P1 → Hid B → A := by intro x0 x1 bZ; refine W_regionD tab_ok x0.v ?_; simp only [push_cast, seval, ↓reduceIte, cast_lit, Ar.v, x1, hN0, hN]; exact bZ.get) : A := e ⟨⟩ p1 ⟨b⟩
theorem zEnx1 {A : Prop} {P0 : Prop} (p0 : P0) {P1 : Prop} (p1 : P1) (e : P0 → P1 → A := by intro x0 x1; have h9 := Option.some.inj x0; subst h9; refine And.intro rfl (Fit2.of (fit_loc hU rfl rfl ?_) (by omega)); simp only [push_cast, seval, ↓reduceIte, cast_lit, x1, hN0, hN]) : A := e p0 p1
theorem zQd {A B : Prop} (l0 : List Nat) (l1 : List Nat) (l2 : List Bool) (b : B) (e : Ar l0 → Ar l1 → Ar l2 → Hid B → A := by intro x0 x1 x2 bZ; refine W_sq x0.v (W_regionD tab_ok [] ?_); simp only [push_cast, seval, ↓reduceIte, cast_lit, Ar.v, hN0, hN]; refine W_drop x1.v x2.v ?_; simp only [push_cast, seval, ↓reduceIte, Ar.v]; exact bZ.get) : A := e ⟨⟩ ⟨⟩ ⟨⟩ ⟨b⟩
theorem zEx {A : Prop} {P0 : Prop} (p0 : P0) (e : P0 → A := by intro x0; refine W_exit ?_; (try simp only [gthen, gblock, ↓reduceIte, Nat.reduceEqDiff]); have h9 := Option.some.inj x0; subst h9; refine And.intro (fun h => by cases h) (And.intro rfl (Fit2.of (fit_loc hU rfl rfl ?_) (by omega))); simp only [push_cast, seval, ↓reduceIte, cast_lit, hN0, hN]) : A := e p0
theorem zCd {A B : Prop} {P0 : Prop} (p0 : P0) (l1 : List Nat) (l2 : List Bool) (b : B) (e : P0 → Ar l1 → Ar l2 → Hid B → A := by intro x0 x1 x2 bZ; refine W_regionD tab_ok [] ?_; simp only [push_cast, seval, ↓reduceIte, cast_lit, hN0, hN]; refine x0.then ?_; simp only [push_cast, seval, ↓reduceIte, cast_lit, hN0, hN]; refine W_drop x1.v x2.v ?_; simp only [push_cast, seval, ↓reduceIte, Ar.v]; exact bZ.get) : A := e p0 ⟨⟩ ⟨⟩ ⟨b⟩
theorem zC {A B : Prop} {P0 : Prop} (p0 : P0) (b : B) (e : P0 → Hid B → A := by intro x0 bZ; refine W_regionD tab_ok [] ?_; simp only [push_cast, seval, ↓reduceIte, cast_lit, hN0, hN]; refine x0.then ?_; simp only [push_cast, seval, ↓reduceIte, cast_lit, hN0, hN]; exact bZ.get) : A := e p0 ⟨b⟩
theorem zTs {A B : Prop} {P0 : Prop} (p0 : P0) (b : B) (e : P0 → Hid B → A := by intro x0 bZ; refine x0.then ?_; simp only [push_cast, seval, ↓reduceIte, cast_lit, hN0, hN]; exact bZ.get) : A := e p0 ⟨b⟩
theorem zQD {A B : Prop} (l0 : List Nat) (l1 : List (Option Bool)) (b : B) (e : Ar l0 → Ar l1 → Hid B → A := by intro x0 x1 bZ; refine W_sq x0.v (W_regionD tab_ok x1.v ?_); simp only [push_cast, seval, ↓reduceIte, cast_lit, Ar.v, hN0, hN]; (repeat (with_reducible refine And.intro (by first | (intro h0; simp only [h0, and_self]; done) | (intro h0; simp only [h0, Bool.not_false, Bool.not_true, Bool.true_and, Bool.and_true, true_and, and_true, and_self, imp_self, implies_true, bne_iff_ne, ne_eq, beq_iff_eq]; done) | (intros; simp_all; done) | exact True.intro) ?_)); exact bZ.get) : A := e ⟨⟩ ⟨⟩ ⟨b⟩
theorem zW {A B : Prop} (b : B) (e : Hid B → A := by intro bZ; refine W_ret ?_; (try simp only [gthen, gblock]); exact bZ.get) : A := e ⟨b⟩
theorem zFin {A : Prop} (l0 : List G) (e : Ar l0 → A := by intro x0; have h := Option.some.inj h; subst h; refine fin_loc (.inr rfl) hU x0.v (by omega) ?_; simp only [push_cast, seval, ↓reduceIte, cast_lit, Ar.v, hN0, hN]) : A := e ⟨⟩
theorem zX1 {A B : Prop} {P0 : Prop} (p0 : P0) (b : B) (e : P0 → Hid B → A := by intro x0 bZ; simp only [push_cast, seval, ↓reduceIte, cast_lit, x0, hN0, hN]; exact bZ.get) : A := e p0 ⟨b⟩
theorem zX2 {A B : Prop} {P0 : Prop} (p0 : P0) {P1 : Prop} (p1 : P1) (b : B) (e : P0 → P1 → Hid B → A := by intro x0 x1 bZ; simp only [push_cast, seval, ↓reduceIte, cast_lit, x0, x1, hN0, hN]; exact bZ.get) : A := e p0 p1 ⟨b⟩
theorem zX3 {A B : Prop} {P0 : Prop} (p0 : P0) {P1 : Prop} (p1 : P1) {P2 : Prop} (p2 : P2) (b : B) (e : P0 → P1 → P2 → Hid B → A := by intro x0 x1 x2 bZ; simp only [push_cast, seval, ↓reduceIte, cast_lit, x0, x1, x2, hN0, hN]; exact bZ.get) : A := e p0 p1 p2 ⟨b⟩
theorem zF7 {A B : Prop} {P0 : Prop} (p0 : P0) {P1 : Prop} (p1 : P1) {P2 : Prop} (p2 : P2) {P3 : Prop} (p3 : P3) {P4 : Prop} (p4 : P4) {P5 : Prop} (p5 : P5) {P6 : Prop} (p6 : P6) (b : B) (e : P0 → P1 → P2 → P3 → P4 → P5 → P6 → Hid B → A := by intro x0 x1 x2 x3 x4 x5 x6 bZ; simp only [push_cast, Nat.reduceAdd, Nat.reduceSub, Nat.reduceMul, Nat.reduceLeDiff, Nat.reduceLT, Nat.reduceEqDiff, ↓reduceIte, reduceCtorEq, Int.reduceBEq, Int.reduceBNe, Nat.reduceBEq, Int.reduceLE, Int.reduceLT, Int.reduceEq, Int.reduceNe, Int.reduceNeg, Nat.reduceDiv, Nat.reduceMod, Nat.reducePow, cast_lit, x0, x1, x2, x3, x4, x5, x6, hN0, hN]; exact bZ.get) : A := e p0 p1 p2 p3 p4 p5 p6 ⟨b⟩
theorem zEnf7 {A : Prop} {P0 : Prop} (p0 : P0) {P1 : Prop} (p1 : P1) {P2 : Prop} (p2 : P2) {P3 : Prop} (p3 : P3) {P4 : Prop} (p4 : P4) {P5 : Prop} (p5 : P5) {P6 : Prop} (p6 : P6) {P7 : Prop} (p7 : P7) (e : P0 → P1 → P2 → P3 → P4 → P5 → P6 → P7 → A := by intro x0 x1 x2 x3 x4 x5 x6 x7; have h9 := Option.some.inj x0; subst h9; refine And.intro rfl (Fit2.of (fit_loc hU rfl rfl ?_) (by omega)); simp only [push_cast, Nat.reduceAdd, Nat.reduceSub, Nat.reduceMul, Nat.reduceLeDiff, Nat.reduceLT, Nat.reduceEqDiff, ↓reduceIte, reduceCtorEq, Int.reduceBEq, Int.reduceBNe, Nat.reduceBEq, Int.reduceLE, Int.reduceLT, Int.reduceEq, Int.reduceNe, Int.reduceNeg, Nat.reduceDiv, Nat.reduceMod, Nat.reducePow, cast_lit, x1, x2, x3, x4, x5, x6, x7, hN0, hN]) : A := e p0 p1 p2 p3 p4 p5 p6 p7
theorem zF6 {A B : Prop} {P0 : Prop} (p0 : P0) {P1 : Prop} (p1 : P1) {P2 : Prop} (p2 : P2) {P3 : Prop} (p3 : P3) {P4 : Prop} (p4 : P4) {P5 : Prop} (p5 : P5) (b : B) (e : P0 → P1 → P2 → P3 → P4 → P5 → Hid B → A := by intro x0 x1 x2 x3 x4 x5 bZ; simp only [push_cast, Nat.reduceAdd, Nat.reduceSub, Nat.reduceMul, Nat.reduceLeDiff, Nat.reduceLT, Nat.reduceEqDiff, ↓reduceIte, reduceCtorEq, Int.reduceBEq, Int.reduceBNe, Nat.reduceBEq, Int.reduceLE, Int.reduceLT, Int.reduceEq, Int.reduceNe, Int.reduceNeg, Nat.reduceDiv, Nat.reduceMod, Nat.reducePow, cast_lit, x0, x1, x2, x3, x4, x5, hN0, hN]; exact bZ.get) : A := e p0 p1 p2 p3 p4 p5 ⟨b⟩
theorem zDs {A B : Prop} (l0 : List Nat) (l1 : List Bool) (b : B) (e : Ar l0 → Ar l1 → Hid B → A := by intro x0 x1 bZ; refine W_drop x0.v x1.v ?_; simp only [push_cast, seval, ↓reduceIte, Ar.v]; refine W_seqK ?_; exact bZ.get) : A := e ⟨⟩ ⟨⟩ ⟨b⟩
theorem zF9 {A B : Prop} {P0 : Prop} (p0 : P0) {P1 : Prop} (p1 : P1) {P2 : Prop} (p2 : P2) {P3 : Prop} (p3 : P3) {P4 : Prop} (p4 : P4) {P5 : Prop} (p5 : P5) {P6 : Prop} (p6 : P6) {P7 : Prop} (p7 : P7) {P8 : Prop} (p8 : P8) (b : B) (e : P0 → P1 → P2 → P3 → P4 → P5 → P6 → P7 → P8 → Hid B → A := by intro x0 x1 x2 x3 x4 x5 x6 x7 x8 bZ; simp only [push_cast, Nat.reduceAdd, Nat.reduceSub, Nat.reduceMul, Nat.reduceLeDiff, Nat.reduceLT, Nat.reduceEqDiff, ↓reduceIte, reduceCtorEq, Int.reduceBEq, Int.reduceBNe, Nat.reduceBEq, Int.reduceLE, Int.reduceLT, Int.reduceEq, Int.reduceNe, Int.reduceNeg, Nat.reduceDiv, Nat.reduceMod, Nat.reducePow, cast_lit, x0, x1, x2, x3, x4, x5, x6, x7, x8, hN0, hN]; exact bZ.get) : A := e p0 p1 p2 p3 p4 p5 p6 p7 p8 ⟨b⟩
theorem zFe9 {A : Prop} {P0 : Prop} (p0 : P0) {P1 : Prop} (p1 : P1) {P2 : Prop} (p2 : P2) {P3 : Prop} (p3 : P3) {P4 : Prop} (p4 : P4) {P5 : Prop} (p5 : P5) {P6 : Prop} (p6 : P6) {P7 : Prop} (p7 : P7) {P8 : Prop} (p8 : P8) (e : P0 → P1 → P2 → P3 → P4 → P5 → P6 → P7 → P8 → A := by intro x0 x1 x2 x3 x4 x5 x6 x7 x8; simp only [push_cast, Nat.reduceAdd, Nat.reduceSub, Nat.reduceMul, Nat.reduceLeDiff, Nat.reduceLT, Nat.reduceEqDiff, ↓reduceIte, reduceCtorEq, Int.reduceBEq, Int.reduceBNe, Nat.reduceBEq, Int.reduceLE, Int.reduceLT, Int.reduceEq, Int.reduceNe, Int.reduceNeg, Nat.reduceDiv, Nat.reduceMod, Nat.reducePow, cast_lit, x0, x1, x2, x3, x4, x5, x6, x7, x8, hN0, hN]) : A := e p0 p1 p2 p3 p4 p5 p6 p7 p8
theorem zSe {A : Prop} (e : A := by simp only [push_cast, seval, ↓reduceIte, cast_lit, hN0, hN]) : A := e
theorem zF10 {A B : Prop} {P0 : Prop} (p0 : P0) {P1 : Prop} (p1 : P1) {P2 : Prop} (p2 : P2) {P3 : Prop} (p3 : P3) {P4 : Prop} (p4 : P4) {P5 : Prop} (p5 : P5) {P6 : Prop} (p6 : P6) {P7 : Prop} (p7 : P7) {P8 : Prop} (p8 : P8) {P9 : Prop} (p9 : P9) (b : B) (e : P0 → P1 → P2 → P3 → P4 → P5 → P6 → P7 → P8 → P9 → Hid B → A := by intro x0 x1 x2 x3 x4 x5 x6 x7 x8 x9 bZ; simp only [push_cast, Nat.reduceAdd, Nat.reduceSub, Nat.reduceMul, Nat.reduceLeDiff, Nat.reduceLT, Nat.reduceEqDiff, ↓reduceIte, reduceCtorEq, Int.reduceBEq, Int.reduceBNe, Nat.reduceBEq, Int.reduceLE, Int.reduceLT, Int.reduceEq, Int.reduceNe, Int.reduceNeg, Nat.reduceDiv, Nat.reduceMod, Nat.reducePow, cast_lit, x0, x1, x2, x3, x4, x5, x6, x7, x8, x9, hN0, hN]; exact bZ.get) : A := e p0 p1 p2 p3 p4 p5 p6 p7 p8 p9 ⟨b⟩
theorem zFe10 {A : Prop} {P0 : Prop} (p0 : P0) {P1 : Prop} (p1 : P1) {P2 : Prop} (p2 : P2) {P3 : Prop} (p3 : P3) {P4 : Prop} (p4 : P4) {P5 : Prop} (p5 : P5) {P6 : Prop} (p6 : P6) {P7 : Prop} (p7 : P7) {P8 : Prop} (p8 : P8) {P9 : Prop} (p9 : P9) (e : P0 → P1 → P2 → P3 → P4 → P5 → P6 → P7 → P8 → P9 → A := by intro x0 x1 x2 x3 x4 x5 x6 x7 x8 x9; simp only [push_cast, Nat.reduceAdd, Nat.reduceSub, Nat.reduceMul, Nat.reduceLeDiff, Nat.reduceLT, Nat.reduceEqDiff, ↓reduceIte, reduceCtorEq, Int.reduceBEq, Int.reduceBNe, Nat.reduceBEq, Int.reduceLE, Int.reduceLT, Int.reduceEq, Int.reduceNe, Int.reduceNeg, Nat.reduceDiv, Nat.reduceMod, Nat.reducePow, cast_lit, x0, x1, x2, x3, x4, x5, x6, x7, x8, x9, hN0, hN]) : A := e p0 p1 p2 p3 p4 p5 p6 p7 p8 p9
theorem zF3 {A B : Prop} {P0 : Prop} (p0 : P0) {P1 : Prop} (p1 : P1) {P2 : Prop} (p2 : P2) (b : B) (e : P0 → P1 → P2 → Hid B → A := by intro x0 x1 x2 bZ; simp only [push_cast, Nat.reduceAdd, Nat.reduceSub, Nat.reduceMul, Nat.reduceLeDiff, Nat.reduceLT, Nat.reduceEqDiff, ↓reduceIte, reduceCtorEq, Int.reduceBEq, Int.reduceBNe, Nat.reduceBEq, Int.reduceLE, Int.reduceLT, Int.reduceEq, Int.reduceNe, Int.reduceNeg, Nat.reduceDiv, Nat.reduceMod, Nat.reducePow, cast_lit, x0, x1, x2, hN0, hN]; exact bZ.get) : A := e p0 p1 p2 ⟨b⟩
theorem zO {A B : Prop} (b : B) (e : Hid B → A := by intro bZ; (repeat (with_reducible refine And.intro (by first | omega | exact agree_loc rfl | exact agree_loc0 | exact agree_ne0 rfl | exact agree_ne rfl rfl | exact agree_ltne rfl | exact agree_ltne0 rfl) ?_)); exact bZ.get) : A := e ⟨b⟩
theorem zEy {A : Prop} {P0 : Prop} (p0 : P0) (e : P0 → A := by intro x0; have h9 := Option.some.inj x0; subst h9; refine And.intro (fun h => by cases h) (And.intro rfl (Fit2.of (fit_loc hU rfl rfl ?_) (by omega))); simp only [push_cast, seval, ↓reduceIte, cast_lit, hN0, hN]) : A := e p0
theorem zXe3 {A : Prop} {P0 : Prop} (p0 : P0) {P1 : Prop} (p1 : P1) {P2 : Prop} (p2 : P2) (e : P0 → P1 → P2 → A := by intro x0 x1 x2; simp only [push_cast, seval, ↓reduceIte, cast_lit, x0, x1, x2, hN0, hN]) : A := e p0 p1 p2
theorem zRof4 {A B : Prop} (l0 : List (Option Bool)) {P1 : Prop} (p1 : P1) {P2 : Prop} (p2 : P2) {P3 : Prop} (p3 : P3) {P4 : Prop} (p4 : P4) (b : B) (e : Ar l0 → P1 → P2 → P3 → P4 → Hid B → A := by intro x0 x1 x2 x3 x4 bZ; refine W_regionD tab_ok x0.v ?_; simp only [push_cast, Nat.reduceAdd, Nat.reduceSub, Nat.reduceMul, Nat.reduceLeDiff, Nat.reduceLT, Nat.reduceEqDiff, ↓reduceIte, reduceCtorEq, Int.reduceBEq, Int.reduceBNe, Nat.reduceBEq, Int.reduceLE, Int.reduceLT, Int.reduceEq, Int.reduceNe, Int.reduceNeg, Nat.reduceDiv, Nat.reduceMod, Nat.reducePow, cast_lit, Ar.v, x1, x2, x3, x4, hN0, hN]; exact bZ.get) : A := e ⟨⟩ p1 p2 p3 p4 ⟨b⟩
theorem zF4 {A B : Prop} {P0 : Prop} (p0 : P0) {P1 : Prop} (p1 : P1) {P2 : Prop} (p2 : P2) {P3 : Prop} (p3 : P3) (b : B) (e : P0 → P1 → P2 → P3 → Hid B → A := by intro x0 x1 x2 x3 bZ; simp only [push_cast, Nat.reduceAdd, Nat.reduceSub, Nat.reduceMul, Nat.reduceLeDiff, Nat.reduceLT, Nat.reduceEqDiff, ↓reduceIte, reduceCtorEq, Int.reduceBEq, Int.reduceBNe, Nat.reduceBEq, Int.reduceLE, Int.reduceLT, Int.reduceEq, Int.reduceNe, Int.reduceNeg, Nat.reduceDiv, Nat.reduceMod, Nat.reducePow, cast_lit, x0, x1, x2, x3, hN0, hN]; exact bZ.get) : A := e p0 p1 p2 p3 ⟨b⟩
theorem zQx1 {A B : Prop} (l0 : List Nat) {P1 : Prop} (p1 : P1) (b : B) (e : Ar l0 → P1 → Hid B → A := by intro x0 x1 bZ; refine W_sq x0.v (W_regionD tab_ok [] ?_); simp only [push_cast, seval, ↓reduceIte, cast_lit, Ar.v, x1, hN0, hN]; exact bZ.get) : A := e ⟨⟩ p1 ⟨b⟩
theorem zRox4 {A B : Prop} (l0 : List (Option Bool)) {P1 : Prop} (p1 : P1) {P2 : Prop} (p2 : P2) {P3 : Prop} (p3 : P3) {P4 : Prop} (p4 : P4) (b : B) (e : Ar l0 → P1 → P2 → P3 → P4 → Hid B → A := by intro x0 x1 x2 x3 x4 bZ; refine W_regionD tab_ok x0.v ?_; simp only [push_cast, seval, ↓reduceIte, cast_lit, Ar.v, x1, x2, x3, x4, hN0, hN]; exact bZ.get) : A := e ⟨⟩ p1 p2 p3 p4 ⟨b⟩
theorem zX4 {A B : Prop} {P0 : Prop} (p0 : P0) {P1 : Prop} (p1 : P1) {P2 : Prop} (p2 : P2) {P3 : Prop} (p3 : P3) (b : B) (e : P0 → P1 → P2 → P3 → Hid B → A := by intro x0 x1 x2 x3 bZ; simp only [push_cast, seval, ↓reduceIte, cast_lit, x0, x1, x2, x3, hN0, hN]; exact bZ.get) : A := e p0 p1 p2 p3 ⟨b⟩
theorem zEnx4 {A : Prop} {P0 : Prop} (p0 : P0) {P1 : Prop} (p1 : P1) {P2 : Prop} (p2 : P2) {P3 : Prop} (p3 : P3) {P4 : Prop} (p4 : P4) (e : P0 → P1 → P2 → P3 → P4 → A := by intro x0 x1 x2 x3 x4; have h9 := Option.some.inj x0; subst h9; refine And.intro rfl (Fit2.of (fit_loc hU rfl rfl ?_) (by omega)); simp only [push_cast, seval, ↓reduceIte, cast_lit, x1, x2, x3, x4, hN0, hN]) : A := e p0 p1 p2 p3 p4
theorem zRof8 {A B : Prop} (l0 : List (Option Bool)) {P1 : Prop} (p1 : P1) {P2 : Prop} (p2 : P2) {P3 : Prop} (p3 : P3) {P4 : Prop} (p4 : P4) {P5 : Prop} (p5 : P5) {P6 : Prop} (p6 : P6) {P7 : Prop} (p7 : P7) {P8 : Prop} (p8 : P8) (b : B) (e : Ar l0 → P1 → P2 → P3 → P4 → P5 → P6 → P7 → P8 → Hid B → A := by intro x0 x1 x2 x3 x4 x5 x6 x7 x8 bZ; refine W_regionD tab_ok x0.v ?_; simp only [push_cast, Nat.reduceAdd, Nat.reduceSub, Nat.reduceMul, Nat.reduceLeDiff, Nat.reduceLT, Nat.reduceEqDiff, ↓reduceIte, reduceCtorEq, Int.reduceBEq, Int.reduceBNe, Nat.reduceBEq, Int.reduceLE, Int.reduceLT, Int.reduceEq, Int.reduceNe, Int.reduceNeg, Nat.reduceDiv, Nat.reduceMod, Nat.reducePow, cast_lit, Ar.v, x1, x2, x3, x4, x5, x6, x7, x8, hN0, hN]; exact bZ.get) : A := e ⟨⟩ p1 p2 p3 p4 p5 p6 p7 p8 ⟨b⟩
theorem zF8 {A B : Prop} {P0 : Prop} (p0 : P0) {P1 : Prop} (p1 : P1) {P2 : Prop} (p2 : P2) {P3 : Prop} (p3 : P3) {P4 : Prop} (p4 : P4) {P5 : Prop} (p5 : P5) {P6 : Prop} (p6 : P6) {P7 : Prop} (p7 : P7) (b : B) (e : P0 → P1 → P2 → P3 → P4 → P5 → P6 → P7 → Hid B → A := by intro x0 x1 x2 x3 x4 x5 x6 x7 bZ; simp only [push_cast, Nat.reduceAdd, Nat.reduceSub, Nat.reduceMul, Nat.reduceLeDiff, Nat.reduceLT, Nat.reduceEqDiff, ↓reduceIte, reduceCtorEq, Int.reduceBEq, Int.reduceBNe, Nat.reduceBEq, Int.reduceLE, Int.reduceLT, Int.reduceEq, Int.reduceNe, Int.reduceNeg, Nat.reduceDiv, Nat.reduceMod, Nat.reducePow, cast_lit, x0, x1, x2, x3, x4, x5, x6, x7, hN0, hN]; exact bZ.get) : A := e p0 p1 p2 p3 p4 p5 p6 p7 ⟨b⟩
theorem zEff6 {A : Prop} {P0 : Prop} (p0 : P0) {P1 : Prop} (p1 : P1) {P2 : Prop} (p2 : P2) {P3 : Prop} (p3 : P3) {P4 : Prop} (p4 : P4) {P5 : Prop} (p5 : P5) (e : P0 → P1 → P2 → P3 → P4 → P5 → A := by intro x0 x1 x2 x3 x4 x5; refine And.intro rfl (Fit2.of (fit_loc hU rfl rfl ?_) (by omega)); simp only [push_cast, Nat.reduceAdd, Nat.reduceSub, Nat.reduceMul, Nat.reduceLeDiff, Nat.reduceLT, Nat.reduceEqDiff, ↓reduceIte, reduceCtorEq, Int.reduceBEq, Int.reduceBNe, Nat.reduceBEq, Int.reduceLE, Int.reduceLT, Int.reduceEq, Int.reduceNe, Int.reduceNeg, Nat.reduceDiv, Nat.reduceMod, Nat.reducePow, cast_lit, x0, x1, x2, x3, x4, x5, hN0, hN]) : A := e p0 p1 p2 p3 p4 p5
theorem zFe6 {A : Prop} {P0 : Prop} (p0 : P0) {P1 : Prop} (p1 : P1) {P2 : Prop} (p2 : P2) {P3 : Prop} (p3 : P3) {P4 : Prop} (p4 : P4) {P5 : Prop} (p5 : P5) (e : P0 → P1 → P2 → P3 → P4 → P5 → A := by intro x0 x1 x2 x3 x4 x5; simp only [push_cast, Nat.reduceAdd, Nat.reduceSub, Nat.reduceMul, Nat.reduceLeDiff, Nat.reduceLT, Nat.reduceEqDiff, ↓reduceIte, reduceCtorEq, Int.reduceBEq, Int.reduceBNe, Nat.reduceBEq, Int.reduceLE, Int.reduceLT, Int.reduceEq, Int.reduceNe, Int.reduceNeg, Nat.reduceDiv, Nat.reduceMod, Nat.reducePow, cast_lit, x0, x1, x2, x3, x4, x5, hN0, hN]) : A := e p0 p1 p2 p3 p4 p5
theorem zQx2 {A B : Prop} (l0 : List Nat) {P1 : Prop} (p1 : P1) {P2 : Prop} (p2 : P2) (b : B) (e : Ar l0 → P1 → P2 → Hid B → A := by intro x0 x1 x2 bZ; refine W_sq x0.v (W_regionD tab_ok [] ?_); simp only [push_cast, seval, ↓reduceIte, cast_lit, Ar.v, x1, x2, hN0, hN]; exact bZ.get) : A := e ⟨⟩ p1 p2 ⟨b⟩
theorem zXe2 {A : Prop} {P0 : Prop} (p0 : P0) {P1 : Prop} (p1 : P1) (e : P0 → P1 → A := by intro x0 x1; simp only [push_cast, seval, ↓reduceIte, cast_lit, x0, x1, hN0, hN]) : A := e p0 p1
theorem zXt {A B : Prop} (b : B) (e : Hid B → A := by intro bZ; refine W_exit ?_; (try simp only [gthen, gblock, ↓reduceIte, Nat.reduceEqDiff]); exact bZ.get) : A := e ⟨b⟩
theorem zEnf4 {A : Prop} {P0 : Prop} (p0 : P0) {P1 : Prop} (p1 : P1) {P2 : Prop} (p2 : P2) {P3 : Prop} (p3 : P3) {P4 : Prop} (p4 : P4) (e : P0 → P1 → P2 → P3 → P4 → A := by intro x0 x1 x2 x3 x4; have h9 := Option.some.inj x0; subst h9; refine And.intro rfl (Fit2.of (fit_loc hU rfl rfl ?_) (by omega)); simp only [push_cast, Nat.reduceAdd, Nat.reduceSub, Nat.reduceMul, Nat.reduceLeDiff, Nat.reduceLT, Nat.reduceEqDiff, ↓reduceIte, reduceCtorEq, Int.reduceBEq, Int.reduceBNe, Nat.reduceBEq, Int.reduceLE, Int.reduceLT, Int.reduceEq, Int.reduceNe, Int.reduceNeg, Nat.reduceDiv, Nat.reduceMod, Nat.reducePow, cast_lit, x1, x2, x3, x4, hN0, hN]) : A := e p0 p1 p2 p3 p4
theorem zRox7 {A B : Prop} (l0 : List (Option Bool)) {P1 : Prop} (p1 : P1) {P2 : Prop} (p2 : P2) {P3 : Prop} (p3 : P3) {P4 : Prop} (p4 : P4) {P5 : Prop} (p5 : P5) {P6 : Prop} (p6 : P6) {P7 : Prop} (p7 : P7) (b : B) (e : Ar l0 → P1 → P2 → P3 → P4 → P5 → P6 → P7 → Hid B → A := by intro x0 x1 x2 x3 x4 x5 x6 x7 bZ; refine W_regionD tab_ok x0.v ?_; simp only [push_cast, seval, ↓reduceIte, cast_lit, Ar.v, x1, x2, x3, x4, x5, x6, x7, hN0, hN]; exact bZ.get) : A := e ⟨⟩ p1 p2 p3 p4 p5 p6 p7 ⟨b⟩
theorem zRof3 {A B : Prop} (l0 : List (Option Bool)) {P1 : Prop} (p1 : P1) {P2 : Prop} (p2 : P2) {P3 : Prop} (p3 : P3) (b : B) (e : Ar l0 → P1 → P2 → P3 → Hid B → A := by intro x0 x1 x2 x3 bZ; refine W_regionD tab_ok x0.v ?_; simp only [push_cast, Nat.reduceAdd, Nat.reduceSub, Nat.reduceMul, Nat.reduceLeDiff, Nat.reduceLT, Nat.reduceEqDiff, ↓reduceIte, reduceCtorEq, Int.reduceBEq, Int.reduceBNe, Nat.reduceBEq, Int.reduceLE, Int.reduceLT, Int.reduceEq, Int.reduceNe, Int.reduceNeg, Nat.reduceDiv, Nat.reduceMod, Nat.reducePow, cast_lit, Ar.v, x1, x2, x3, hN0, hN]; exact bZ.get) : A := e ⟨⟩ p1 p2 p3 ⟨b⟩
theorem zRo {A B : Prop} (l0 : List (Option Bool)) (b : B) (e : Ar l0 → Hid B → A := by intro x0 bZ; refine W_regionD tab_ok x0.v ?_; simp only [push_cast, seval, ↓reduceIte, cast_lit, Ar.v, hN0, hN]; exact bZ.get) : A := e ⟨⟩ ⟨b⟩
end Go.Proofs.Ytgffgbdnbjbmoaa
