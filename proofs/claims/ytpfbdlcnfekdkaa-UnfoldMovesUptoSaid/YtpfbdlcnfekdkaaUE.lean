/- Part UE of this seat's mirrors: functions of the seat's program, and the plain functions that they are; each theorem bears its own conditions. -/
import Derived.Test.YtpfbdlcnfekdkaaTy
import Derived.Test.YtpfbdlcnfekdkaaUD
namespace Go.Proofs.Ytpfbdlcnfekdkaa
open Go.RowKit
set_option linter.unusedVariables false
set_option linter.unusedSimpArgs false
set_option maxRecDepth 100000
set_option maxHeartbeats 4000000
def e_S_api_Limits (x : S_api_Limits) : List G := [.val (.int .i64 x.Depth), .val (.int .i64 x.Weight), .val (.int .i64 x.MaxD), .val (.int .i64 x.MaxOut)]

theorem pu_eI_u64 : ∀ x, G.pures ((eI .u64) x) = true := fun x => by simp [eI, eB, eS, eL, eP, G.pures, G.pure, pures_fl, pure_gP]

theorem wkl_eI_u64 {O O' : Objs} {n : Nat} (xs : List Int) : wkl O O' n (fl (eI .u64) xs) (fl (eI .u64) xs) := wkl_pure (pures_fl pu_eI_u64 xs)

theorem wka_eI_u64 {O O' : Objs} {n : Nat} (xs : List Int) (b b' : List G) : wkl O O' n (fl (eI .u64) xs ++ b) (fl (eI .u64) xs ++ b') = wkl O O' n b b' := wkl_same b b' _ (pures_fl pu_eI_u64 xs)

theorem len_eI_u64 (xs : List Int) : (fl (eI .u64) xs).length = xs.length * 1 := fl_length (f := (eI .u64)) (k := 1) (fun _ => rfl) xs

theorem one_eI_u64 (xs : List Int) : (fl (eI .u64) xs).all G.one = true := all_one_fl (fun x => by simp [eI, eB, eS, eL, eP, one_gP, G.one, Value.oneCell']) xs

theorem wkp_eI_u64 {O O' : Objs} {n : Nat} (x : Option Int) : wk O O' n (gP (eI .u64) x) (gP (eI .u64) x) = True := wk_gP pu_eI_u64 x

theorem undp_eI_u64 {k : Nat} (x : Option Int) : (gP (eI .u64) x).under k = true := under_gP pu_eI_u64 k x

theorem rens_eI_u64 {ρ : Nat → Nat} (xs : List Int) : G.rens ρ (fl (eI .u64) xs) = fl (eI .u64) xs := rens_pure ρ _ (pures_fl pu_eI_u64 xs)

theorem renp_eI_u64 {ρ : Nat → Nat} (x : Option Int) : (gP (eI .u64) x).ren ρ = gP (eI .u64) x := ren_pure ρ _ (pure_gP pu_eI_u64 x)

theorem und_eI_u64 {k : Nat} (xs : List Int) : G.unders k (fl (eI .u64) xs) = true := pures_unders _ _ (pures_fl pu_eI_u64 xs)

theorem pu_eL_eI_u64 : ∀ x, G.pures ((eL (eI .u64)) x) = true := fun x => by simp [eI, eB, eS, eL, eP, G.pures, G.pure, pures_fl, pure_gP, pu_eI_u64]

theorem wkl_eL_eI_u64 {O O' : Objs} {n : Nat} (xs : List (List Int)) : wkl O O' n (fl (eL (eI .u64)) xs) (fl (eL (eI .u64)) xs) := wkl_pure (pures_fl pu_eL_eI_u64 xs)

theorem wka_eL_eI_u64 {O O' : Objs} {n : Nat} (xs : List (List Int)) (b b' : List G) : wkl O O' n (fl (eL (eI .u64)) xs ++ b) (fl (eL (eI .u64)) xs ++ b') = wkl O O' n b b' := wkl_same b b' _ (pures_fl pu_eL_eI_u64 xs)

theorem len_eL_eI_u64 (xs : List (List Int)) : (fl (eL (eI .u64)) xs).length = xs.length * 1 := fl_length (f := (eL (eI .u64))) (k := 1) (fun _ => rfl) xs

theorem one_eL_eI_u64 (xs : List (List Int)) : (fl (eL (eI .u64)) xs).all G.one = true := all_one_fl (fun x => by simp [eI, eB, eS, eL, eP, one_gP, G.one, Value.oneCell']) xs

theorem wkp_eL_eI_u64 {O O' : Objs} {n : Nat} (x : Option (List Int)) : wk O O' n (gP (eL (eI .u64)) x) (gP (eL (eI .u64)) x) = True := wk_gP pu_eL_eI_u64 x

theorem undp_eL_eI_u64 {k : Nat} (x : Option (List Int)) : (gP (eL (eI .u64)) x).under k = true := under_gP pu_eL_eI_u64 k x

theorem rens_eL_eI_u64 {ρ : Nat → Nat} (xs : List (List Int)) : G.rens ρ (fl (eL (eI .u64)) xs) = fl (eL (eI .u64)) xs := rens_pure ρ _ (pures_fl pu_eL_eI_u64 xs)

theorem renp_eL_eI_u64 {ρ : Nat → Nat} (x : Option (List Int)) : (gP (eL (eI .u64)) x).ren ρ = gP (eL (eI .u64)) x := ren_pure ρ _ (pure_gP pu_eL_eI_u64 x)

theorem und_eL_eI_u64 {k : Nat} (xs : List (List Int)) : G.unders k (fl (eL (eI .u64)) xs) = true := pures_unders _ _ (pures_fl pu_eL_eI_u64 xs)

def e_S_arena_Arena (x : S_arena_Arena) : List G := [.sl x.segments.length (fl (eL (eI .u64)) x.segments), .val (.int .i64 x.size), .val (.int .i64 x.left)]

theorem pu_e_S_arena_Arena : ∀ x, G.pures (e_S_arena_Arena x) = true := fun x => by simp [eI, eB, eS, eL, eP, G.pures, G.pure, pures_fl, pure_gP, e_S_arena_Arena, pu_eI_u64, pu_eL_eI_u64]

theorem wkl_e_S_arena_Arena {O O' : Objs} {n : Nat} (xs : List S_arena_Arena) : wkl O O' n (fl e_S_arena_Arena xs) (fl e_S_arena_Arena xs) := wkl_pure (pures_fl pu_e_S_arena_Arena xs)

theorem wka_e_S_arena_Arena {O O' : Objs} {n : Nat} (xs : List S_arena_Arena) (b b' : List G) : wkl O O' n (fl e_S_arena_Arena xs ++ b) (fl e_S_arena_Arena xs ++ b') = wkl O O' n b b' := wkl_same b b' _ (pures_fl pu_e_S_arena_Arena xs)

theorem len_e_S_arena_Arena (xs : List S_arena_Arena) : (fl e_S_arena_Arena xs).length = xs.length * 3 := fl_length (f := e_S_arena_Arena) (k := 3) (fun _ => rfl) xs

theorem one_e_S_arena_Arena (xs : List S_arena_Arena) : (fl e_S_arena_Arena xs).all G.one = true := all_one_fl (fun x => by simp [eI, eB, eS, eL, eP, one_gP, G.one, Value.oneCell', e_S_arena_Arena]) xs

theorem wkp_e_S_arena_Arena {O O' : Objs} {n : Nat} (x : Option S_arena_Arena) : wk O O' n (gP e_S_arena_Arena x) (gP e_S_arena_Arena x) = True := wk_gP pu_e_S_arena_Arena x

theorem undp_e_S_arena_Arena {k : Nat} (x : Option S_arena_Arena) : (gP e_S_arena_Arena x).under k = true := under_gP pu_e_S_arena_Arena k x

theorem rens_e_S_arena_Arena {ρ : Nat → Nat} (xs : List S_arena_Arena) : G.rens ρ (fl e_S_arena_Arena xs) = fl e_S_arena_Arena xs := rens_pure ρ _ (pures_fl pu_e_S_arena_Arena xs)

theorem renp_e_S_arena_Arena {ρ : Nat → Nat} (x : Option S_arena_Arena) : (gP e_S_arena_Arena x).ren ρ = gP e_S_arena_Arena x := ren_pure ρ _ (pure_gP pu_e_S_arena_Arena x)

theorem und_e_S_arena_Arena {k : Nat} (xs : List S_arena_Arena) : G.unders k (fl e_S_arena_Arena xs) = true := pures_unders _ _ (pures_fl pu_e_S_arena_Arena xs)

def e_S_ptr_Ptr (x : S_ptr_Ptr) : List G := [.val (.int .i64 x.Kind), .val (.int .i64 x.Off), .val (.int .i64 x.Data), .val (.int .i64 x.Ptrs), .val (.int .i64 x.Code), .val (.int .i64 x.Count), .val (.int .i64 x.Segment), .val (.bool x.Double)]

theorem pu_eI_i64 : ∀ x, G.pures ((eI .i64) x) = true := fun x => by simp [eI, eB, eS, eL, eP, G.pures, G.pure, pures_fl, pure_gP, pu_eI_u64, pu_eL_eI_u64, pu_e_S_arena_Arena]

theorem wkl_eI_i64 {O O' : Objs} {n : Nat} (xs : List Int) : wkl O O' n (fl (eI .i64) xs) (fl (eI .i64) xs) := wkl_pure (pures_fl pu_eI_i64 xs)

theorem wka_eI_i64 {O O' : Objs} {n : Nat} (xs : List Int) (b b' : List G) : wkl O O' n (fl (eI .i64) xs ++ b) (fl (eI .i64) xs ++ b') = wkl O O' n b b' := wkl_same b b' _ (pures_fl pu_eI_i64 xs)

theorem len_eI_i64 (xs : List Int) : (fl (eI .i64) xs).length = xs.length * 1 := fl_length (f := (eI .i64)) (k := 1) (fun _ => rfl) xs

theorem one_eI_i64 (xs : List Int) : (fl (eI .i64) xs).all G.one = true := all_one_fl (fun x => by simp [eI, eB, eS, eL, eP, one_gP, G.one, Value.oneCell']) xs

theorem wkp_eI_i64 {O O' : Objs} {n : Nat} (x : Option Int) : wk O O' n (gP (eI .i64) x) (gP (eI .i64) x) = True := wk_gP pu_eI_i64 x

theorem undp_eI_i64 {k : Nat} (x : Option Int) : (gP (eI .i64) x).under k = true := under_gP pu_eI_i64 k x

theorem rens_eI_i64 {ρ : Nat → Nat} (xs : List Int) : G.rens ρ (fl (eI .i64) xs) = fl (eI .i64) xs := rens_pure ρ _ (pures_fl pu_eI_i64 xs)

theorem renp_eI_i64 {ρ : Nat → Nat} (x : Option Int) : (gP (eI .i64) x).ren ρ = gP (eI .i64) x := ren_pure ρ _ (pure_gP pu_eI_i64 x)

theorem und_eI_i64 {k : Nat} (xs : List Int) : G.unders k (fl (eI .i64) xs) = true := pures_unders _ _ (pures_fl pu_eI_i64 xs)

def e_S_far_Loc (x : S_far_Loc) : List G := [.val (.int .i64 x.P.Kind), .val (.int .i64 x.P.Off), .val (.int .i64 x.P.Data), .val (.int .i64 x.P.Ptrs), .val (.int .i64 x.P.Code), .val (.int .i64 x.P.Count), .val (.int .i64 x.P.Segment), .val (.bool x.P.Double), .val (.int .i64 x.Segment), .val (.int .i64 x.At)]

def e_S_reader_Ref (x : S_reader_Ref) : List G := [(gP e_S_arena_Arena x.a), .val (.int .i64 x.kind), .val (.int .i64 x.segment), .val (.int .i64 x.at_), .val (.int .i64 x.words), .val (.int .i64 x.ptrs), .val (.int .i64 x.count), .val (.int .i64 x.code), .val (.int .i64 x.index)]

def e_S_valid_checker (x : S_valid_checker) : List G := [.val (.int .i64 x.left)]

theorem pu_e_S_valid_checker : ∀ x, G.pures (e_S_valid_checker x) = true := fun x => by simp [eI, eB, eS, eL, eP, G.pures, G.pure, pures_fl, pure_gP, e_S_valid_checker, pu_eI_u64, pu_eL_eI_u64, pu_e_S_arena_Arena, pu_eI_i64]

theorem wkl_e_S_valid_checker {O O' : Objs} {n : Nat} (xs : List S_valid_checker) : wkl O O' n (fl e_S_valid_checker xs) (fl e_S_valid_checker xs) := wkl_pure (pures_fl pu_e_S_valid_checker xs)

theorem wka_e_S_valid_checker {O O' : Objs} {n : Nat} (xs : List S_valid_checker) (b b' : List G) : wkl O O' n (fl e_S_valid_checker xs ++ b) (fl e_S_valid_checker xs ++ b') = wkl O O' n b b' := wkl_same b b' _ (pures_fl pu_e_S_valid_checker xs)

theorem len_e_S_valid_checker (xs : List S_valid_checker) : (fl e_S_valid_checker xs).length = xs.length * 1 := fl_length (f := e_S_valid_checker) (k := 1) (fun _ => rfl) xs

theorem one_e_S_valid_checker (xs : List S_valid_checker) : (fl e_S_valid_checker xs).all G.one = true := all_one_fl (fun x => by simp [eI, eB, eS, eL, eP, one_gP, G.one, Value.oneCell', e_S_valid_checker]) xs

theorem wkp_e_S_valid_checker {O O' : Objs} {n : Nat} (x : Option S_valid_checker) : wk O O' n (gP e_S_valid_checker x) (gP e_S_valid_checker x) = True := wk_gP pu_e_S_valid_checker x

theorem undp_e_S_valid_checker {k : Nat} (x : Option S_valid_checker) : (gP e_S_valid_checker x).under k = true := under_gP pu_e_S_valid_checker k x

theorem rens_e_S_valid_checker {ρ : Nat → Nat} (xs : List S_valid_checker) : G.rens ρ (fl e_S_valid_checker xs) = fl e_S_valid_checker xs := rens_pure ρ _ (pures_fl pu_e_S_valid_checker xs)

theorem renp_e_S_valid_checker {ρ : Nat → Nat} (x : Option S_valid_checker) : (gP e_S_valid_checker x).ren ρ = gP e_S_valid_checker x := ren_pure ρ _ (pure_gP pu_e_S_valid_checker x)

theorem und_e_S_valid_checker {k : Nat} (xs : List S_valid_checker) : G.unders k (fl e_S_valid_checker xs) = true := pures_unders _ _ (pures_fl pu_e_S_valid_checker xs)

def e_S_unfold_unfolder (x : S_unfold_unfolder) : List G := [.val (.int .i64 x.left)]

mutual
def e0_S_api_Tree : S_api_Tree → List G
  | ⟨f0, f1, f2⟩ => [.val (.int .i64 f0), .sl f1.length (fl (eI .u64) f1), .sl f2.length (f0_S_api_Tree f2)]
def f0_S_api_Tree : List S_api_Tree → List G
  | [] => []
  | x :: xs => e0_S_api_Tree x ++ f0_S_api_Tree xs
end

theorem f0_eq_S_api_Tree : ∀ xs, f0_S_api_Tree xs = fl e0_S_api_Tree xs
  | [] => by simp [f0_S_api_Tree, fl]
  | x :: xs => by rw [f0_S_api_Tree, fl_cons, f0_eq_S_api_Tree xs]

def e_S_api_Tree (x : S_api_Tree) : List G := [.val (.int .i64 x.Kind), .sl x.Words.length (fl (eI .u64) x.Words), .sl x.Kids.length (fl e0_S_api_Tree x.Kids)]

theorem e0_eq_S_api_Tree : e0_S_api_Tree = e_S_api_Tree := by
  funext x
  obtain ⟨_, _, _⟩ := x
  simp only [e0_S_api_Tree, f0_eq_S_api_Tree, e_S_api_Tree, List.cons_append, List.nil_append, List.append_nil]

mutual
theorem pu0_S_api_Tree : ∀ x, G.pures (e0_S_api_Tree x) = true
  | ⟨f0, f1, f2⟩ => by simp [e0_S_api_Tree, eP, pure_gP, eI, eB, eS, eL, G.pures, G.pure, pures_app, pures_fl, pul0_S_api_Tree f2, pu_eI_u64, pu_eL_eI_u64, pu_e_S_arena_Arena, pu_eI_i64, pu_e_S_valid_checker]
theorem pul0_S_api_Tree : ∀ xs, G.pures (f0_S_api_Tree xs) = true
  | [] => rfl
  | x :: xs => by simp [f0_S_api_Tree, pures_app, pu0_S_api_Tree x, pul0_S_api_Tree xs]
end

theorem pue_S_api_Tree : ∀ x, G.pures (e_S_api_Tree x) = true := fun x => by rw [← e0_eq_S_api_Tree]; exact pu0_S_api_Tree x

theorem pu_e_S_api_Tree : ∀ x, G.pures (e_S_api_Tree x) = true := fun x => by rw [← e0_eq_S_api_Tree]; exact pu0_S_api_Tree x

theorem wkl_e_S_api_Tree {O O' : Objs} {n : Nat} (xs : List S_api_Tree) : wkl O O' n (fl e_S_api_Tree xs) (fl e_S_api_Tree xs) := wkl_pure (pures_fl pu_e_S_api_Tree xs)

theorem wka_e_S_api_Tree {O O' : Objs} {n : Nat} (xs : List S_api_Tree) (b b' : List G) : wkl O O' n (fl e_S_api_Tree xs ++ b) (fl e_S_api_Tree xs ++ b') = wkl O O' n b b' := wkl_same b b' _ (pures_fl pu_e_S_api_Tree xs)

theorem len_e_S_api_Tree (xs : List S_api_Tree) : (fl e_S_api_Tree xs).length = xs.length * 3 := fl_length (f := e_S_api_Tree) (k := 3) (fun _ => rfl) xs

theorem one_e_S_api_Tree (xs : List S_api_Tree) : (fl e_S_api_Tree xs).all G.one = true := all_one_fl (fun x => by simp [eI, eB, eS, eL, eP, one_gP, G.one, Value.oneCell', e_S_api_Tree]) xs

theorem wkp_e_S_api_Tree {O O' : Objs} {n : Nat} (x : Option S_api_Tree) : wk O O' n (gP e_S_api_Tree x) (gP e_S_api_Tree x) = True := wk_gP pu_e_S_api_Tree x

theorem undp_e_S_api_Tree {k : Nat} (x : Option S_api_Tree) : (gP e_S_api_Tree x).under k = true := under_gP pu_e_S_api_Tree k x

theorem rens_e_S_api_Tree {ρ : Nat → Nat} (xs : List S_api_Tree) : G.rens ρ (fl e_S_api_Tree xs) = fl e_S_api_Tree xs := rens_pure ρ _ (pures_fl pu_e_S_api_Tree xs)

theorem renp_e_S_api_Tree {ρ : Nat → Nat} (x : Option S_api_Tree) : (gP e_S_api_Tree x).ren ρ = gP e_S_api_Tree x := ren_pure ρ _ (pure_gP pu_e_S_api_Tree x)

theorem und_e_S_api_Tree {k : Nat} (xs : List S_api_Tree) : G.unders k (fl e_S_api_Tree xs) = true := pures_unders _ _ (pures_fl pu_e_S_api_Tree xs)

theorem pu_e_S_unfold_unfolder : ∀ x, G.pures (e_S_unfold_unfolder x) = true := fun x => by simp [eI, eB, eS, eL, eP, G.pures, G.pure, pures_fl, pure_gP, e_S_unfold_unfolder, pu_eI_u64, pu_eL_eI_u64, pu_e_S_arena_Arena, pu_eI_i64, pu_e_S_valid_checker, pu_e_S_api_Tree, e0_eq_S_api_Tree]

theorem wkl_e_S_unfold_unfolder {O O' : Objs} {n : Nat} (xs : List S_unfold_unfolder) : wkl O O' n (fl e_S_unfold_unfolder xs) (fl e_S_unfold_unfolder xs) := wkl_pure (pures_fl pu_e_S_unfold_unfolder xs)

theorem wka_e_S_unfold_unfolder {O O' : Objs} {n : Nat} (xs : List S_unfold_unfolder) (b b' : List G) : wkl O O' n (fl e_S_unfold_unfolder xs ++ b) (fl e_S_unfold_unfolder xs ++ b') = wkl O O' n b b' := wkl_same b b' _ (pures_fl pu_e_S_unfold_unfolder xs)

theorem len_e_S_unfold_unfolder (xs : List S_unfold_unfolder) : (fl e_S_unfold_unfolder xs).length = xs.length * 1 := fl_length (f := e_S_unfold_unfolder) (k := 1) (fun _ => rfl) xs

theorem one_e_S_unfold_unfolder (xs : List S_unfold_unfolder) : (fl e_S_unfold_unfolder xs).all G.one = true := all_one_fl (fun x => by simp [eI, eB, eS, eL, eP, one_gP, G.one, Value.oneCell', e_S_unfold_unfolder]) xs

theorem wkp_e_S_unfold_unfolder {O O' : Objs} {n : Nat} (x : Option S_unfold_unfolder) : wk O O' n (gP e_S_unfold_unfolder x) (gP e_S_unfold_unfolder x) = True := wk_gP pu_e_S_unfold_unfolder x

theorem undp_e_S_unfold_unfolder {k : Nat} (x : Option S_unfold_unfolder) : (gP e_S_unfold_unfolder x).under k = true := under_gP pu_e_S_unfold_unfolder k x

theorem rens_e_S_unfold_unfolder {ρ : Nat → Nat} (xs : List S_unfold_unfolder) : G.rens ρ (fl e_S_unfold_unfolder xs) = fl e_S_unfold_unfolder xs := rens_pure ρ _ (pures_fl pu_e_S_unfold_unfolder xs)

theorem renp_e_S_unfold_unfolder {ρ : Nat → Nat} (x : Option S_unfold_unfolder) : (gP e_S_unfold_unfolder x).ren ρ = gP e_S_unfold_unfolder x := ren_pure ρ _ (pure_gP pu_e_S_unfold_unfolder x)

theorem und_e_S_unfold_unfolder {k : Nat} (xs : List S_unfold_unfolder) : G.unders k (fl e_S_unfold_unfolder xs) = true := pures_unders _ _ (pures_fl pu_e_S_unfold_unfolder xs)

end Go.Proofs.Ytpfbdlcnfekdkaa
