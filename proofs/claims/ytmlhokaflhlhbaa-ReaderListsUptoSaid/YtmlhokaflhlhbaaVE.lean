/- Part VE of this seat's mirrors: functions of the seat's program, and the plain functions that they are; each theorem bears its own conditions. -/
import Derived.Test.YtmlhokaflhlhbaaTy
import Derived.Test.YtmlhokaflhlhbaaVD
namespace Go.Proofs.Ytmlhokaflhlhbaa
open Go.RowKit
set_option linter.unusedVariables false
set_option linter.unusedSimpArgs false
set_option maxRecDepth 100000
set_option maxHeartbeats 4000000
theorem Xx : ∀ x, G.pures ((eI .u64) x) = true := fun x => by simp [eI, eB, eS, eL, eP, G.pures, G.pure, Zy, Jm]
theorem U9 {O O' : Objs} {n : Nat} (xs : List Int) : Kh O O' n (fl (eI .u64) xs) (fl (eI .u64) xs) := Za6 (Zy Xx xs)
theorem U6 {O O' : Objs} {n : Nat} (xs : List Int) (b b' : List G) : Kh O O' n (fl (eI .u64) xs ++ b) (fl (eI .u64) xs ++ b') = Kh O O' n b b' := Ga b b' _ (Zy Xx xs)
theorem Um (xs : List Int) : (fl (eI .u64) xs).length = xs.length * 1 := X4 (f := (eI .u64)) (k := 1) (fun _ => rfl) xs
theorem Uq (xs : List Int) : (fl (eI .u64) xs).all G.one = true := J8 (fun x => by simp [eI, eB, eS, eL, eP, Ur, G.one, Value.oneCell']) xs
theorem Gc {O O' : Objs} {n : Nat} (x : Option Int) : wk O O' n (gP (eI .u64) x) (gP (eI .u64) x) = True := Zks Xx x
theorem Vz {k : Nat} (x : Option Int) : (gP (eI .u64) x).under k = true := U4 Xx k x
theorem Vw {ρ : Nat → Nat} (xs : List Int) : G.rens ρ (fl (eI .u64) xs) = fl (eI .u64) xs := X5 ρ _ (Zy Xx xs)
theorem Vu {ρ : Nat → Nat} (x : Option Int) : (gP (eI .u64) x).ren ρ = gP (eI .u64) x := Vs ρ _ (Jm Xx x)
theorem U3 {k : Nat} (xs : List Int) : G.unders k (fl (eI .u64) xs) = true := Yi _ _ (Zy Xx xs)
theorem Yw : ∀ x, G.pures ((eL (eI .u64)) x) = true := fun x => by simp [eI, eB, eS, eL, eP, G.pures, G.pure, Zy, Jm, Xx]
theorem J4 {O O' : Objs} {n : Nat} (xs : List (List Int)) : Kh O O' n (fl (eL (eI .u64)) xs) (fl (eL (eI .u64)) xs) := Za6 (Zy Yw xs)
theorem J3 {O O' : Objs} {n : Nat} (xs : List (List Int)) (b b' : List G) : Kh O O' n (fl (eL (eI .u64)) xs ++ b) (fl (eL (eI .u64)) xs ++ b') = Kh O O' n b b' := Ga b b' _ (Zy Yw xs)
theorem Jw (xs : List (List Int)) : (fl (eL (eI .u64)) xs).length = xs.length * 1 := X4 (f := (eL (eI .u64))) (k := 1) (fun _ => rfl) xs
theorem Jy (xs : List (List Int)) : (fl (eL (eI .u64)) xs).all G.one = true := J8 (fun x => by simp [eI, eB, eS, eL, eP, Ur, G.one, Value.oneCell']) xs
theorem J5 {O O' : Objs} {n : Nat} (x : Option (List Int)) : wk O O' n (gP (eL (eI .u64)) x) (gP (eL (eI .u64)) x) = True := Zks Yw x
theorem Jg {k : Nat} (x : Option (List Int)) : (gP (eL (eI .u64)) x).under k = true := U4 Yw k x
theorem Je {ρ : Nat → Nat} (xs : List (List Int)) : G.rens ρ (fl (eL (eI .u64)) xs) = fl (eL (eI .u64)) xs := X5 ρ _ (Zy Yw xs)
theorem Jd {ρ : Nat → Nat} (x : Option (List Int)) : (gP (eL (eI .u64)) x).ren ρ = gP (eL (eI .u64)) x := Vs ρ _ (Jm Yw x)
theorem J0 {k : Nat} (xs : List (List Int)) : G.unders k (fl (eL (eI .u64)) xs) = true := Yi _ _ (Zy Yw xs)
def Zd (x : Zf) : List G := [.sl x.segments.length (fl (eL (eI .u64)) x.segments), .val (.int .i64 x.size), .val (.int .i64 x.left)]
theorem Z6 : ∀ x, G.pures (Zd x) = true := fun x => by simp [eI, eB, eS, eL, eP, G.pures, G.pure, Zy, Jm, Zd, Xx, Yw]
theorem Xt {O O' : Objs} {n : Nat} (xs : List Zf) : Kh O O' n (fl Zd xs) (fl Zd xs) := Za6 (Zy Z6 xs)
theorem Xs {O O' : Objs} {n : Nat} (xs : List Zf) (b b' : List G) : Kh O O' n (fl Zd xs ++ b) (fl Zd xs ++ b') = Kh O O' n b b' := Ga b b' _ (Zy Z6 xs)
theorem Xo (xs : List Zf) : (fl Zd xs).length = xs.length * 3 := X4 (f := Zd) (k := 3) (fun _ => rfl) xs
theorem Xq (xs : List Zf) : (fl Zd xs).all G.one = true := J8 (fun x => by simp [eI, eB, eS, eL, eP, Ur, G.one, Value.oneCell', Zd]) xs
theorem Xu {O O' : Objs} {n : Nat} (x : Option Zf) : wk O O' n (gP Zd x) (gP Zd x) = True := Zks Z6 x
theorem Xj {k : Nat} (x : Option Zf) : (gP Zd x).under k = true := U4 Z6 k x
theorem Xi {ρ : Nat → Nat} (xs : List Zf) : G.rens ρ (fl Zd xs) = fl Zd xs := X5 ρ _ (Zy Z6 xs)
theorem Xh {ρ : Nat → Nat} (x : Option Zf) : (gP Zd x).ren ρ = gP Zd x := Vs ρ _ (Jm Z6 x)
theorem Xr {k : Nat} (xs : List Zf) : G.unders k (fl Zd xs) = true := Yi _ _ (Zy Z6 xs)
def Vi (x : Zz) : List G := [.val (.int .i64 x.Kind), .val (.int .i64 x.Off), .val (.int .i64 x.Data), .val (.int .i64 x.Ptrs), .val (.int .i64 x.Code), .val (.int .i64 x.Count), .val (.int .i64 x.Segment), .val (.bool x.Double)]
theorem Jl : ∀ x, G.pures ((eI .i64) x) = true := fun x => by simp [eI, eB, eS, eL, eP, G.pures, G.pure, Zy, Jm, Xx, Yw, Z6]
theorem U8 {O O' : Objs} {n : Nat} (xs : List Int) : Kh O O' n (fl (eI .i64) xs) (fl (eI .i64) xs) := Za6 (Zy Jl xs)
theorem U5 {O O' : Objs} {n : Nat} (xs : List Int) (b b' : List G) : Kh O O' n (fl (eI .i64) xs ++ b) (fl (eI .i64) xs ++ b') = Kh O O' n b b' := Ga b b' _ (Zy Jl xs)
theorem Ul (xs : List Int) : (fl (eI .i64) xs).length = xs.length * 1 := X4 (f := (eI .i64)) (k := 1) (fun _ => rfl) xs
theorem Up (xs : List Int) : (fl (eI .i64) xs).all G.one = true := J8 (fun x => by simp [eI, eB, eS, eL, eP, Ur, G.one, Value.oneCell']) xs
theorem Gb {O O' : Objs} {n : Nat} (x : Option Int) : wk O O' n (gP (eI .i64) x) (gP (eI .i64) x) = True := Zks Jl x
theorem Vy {k : Nat} (x : Option Int) : (gP (eI .i64) x).under k = true := U4 Jl k x
theorem Vv {ρ : Nat → Nat} (xs : List Int) : G.rens ρ (fl (eI .i64) xs) = fl (eI .i64) xs := X5 ρ _ (Zy Jl xs)
theorem Vt {ρ : Nat → Nat} (x : Option Int) : (gP (eI .i64) x).ren ρ = gP (eI .i64) x := Vs ρ _ (Jm Jl x)
theorem U2 {k : Nat} (xs : List Int) : G.unders k (fl (eI .i64) xs) = true := Yi _ _ (Zy Jl xs)
def Vh (x : Yc) : List G := [.val (.int .i64 x.P.Kind), .val (.int .i64 x.P.Off), .val (.int .i64 x.P.Data), .val (.int .i64 x.P.Ptrs), .val (.int .i64 x.P.Code), .val (.int .i64 x.P.Count), .val (.int .i64 x.P.Segment), .val (.bool x.P.Double), .val (.int .i64 x.Segment), .val (.int .i64 x.At)]
def Jb (x : Zg) : List G := [(gP Zd x.a), .val (.int .i64 x.kind), .val (.int .i64 x.segment), .val (.int .i64 x.at_), .val (.int .i64 x.words), .val (.int .i64 x.ptrs), .val (.int .i64 x.count), .val (.int .i64 x.code), .val (.int .i64 x.index)]
def Xz (x : Zgy) : List G := [.val (.int .i64 x.P.Kind), .val (.int .i64 x.P.Off), .val (.int .i64 x.P.Data), .val (.int .i64 x.P.Ptrs), .val (.int .i64 x.P.Code), .val (.int .i64 x.P.Count), .val (.int .i64 x.P.Segment), .val (.bool x.P.Double), .val (.int .i64 x.Segment), .val (.int .i64 x.At)]
def X0 (x : Zad) : List G := [.val (.int .i64 x.Kind), .val (.int .i64 x.S), .val (.int .i64 x.At), .val (.int .i64 x.Data), .val (.int .i64 x.Ptrs), .val (.int .i64 x.Count), .val (.int .u64 x.N)]
def Ja (x : Zea) : List G := [.val (.int .i64 x.Depth), .val (.int .i64 x.Weight), .val (.int .i64 x.MaxD), .val (.int .i64 x.MaxOut)]
def Zm (x : Yg) : List G := [.val (.int .i64 x.left)]
theorem Yb : ∀ x, G.pures (Zm x) = true := fun x => by simp [eI, eB, eS, eL, eP, G.pures, G.pure, Zy, Jm, Zm, Xx, Yw, Z6, Jl]
theorem Y8 {O O' : Objs} {n : Nat} (xs : List Yg) : Kh O O' n (fl Zm xs) (fl Zm xs) := Za6 (Zy Yb xs)
theorem Y7 {O O' : Objs} {n : Nat} (xs : List Yg) (b b' : List G) : Kh O O' n (fl Zm xs ++ b) (fl Zm xs ++ b') = Kh O O' n b b' := Ga b b' _ (Zy Yb xs)
theorem Y3 (xs : List Yg) : (fl Zm xs).length = xs.length * 1 := X4 (f := Zm) (k := 1) (fun _ => rfl) xs
theorem Y4 (xs : List Yg) : (fl Zm xs).all G.one = true := J8 (fun x => by simp [eI, eB, eS, eL, eP, Ur, G.one, Value.oneCell', Zm]) xs
theorem Y9 {O O' : Objs} {n : Nat} (x : Option Yg) : wk O O' n (gP Zm x) (gP Zm x) = True := Zks Yb x
theorem Y1 {k : Nat} (x : Option Yg) : (gP Zm x).under k = true := U4 Yb k x
theorem Yy {ρ : Nat → Nat} (xs : List Yg) : G.rens ρ (fl Zm xs) = fl Zm xs := X5 ρ _ (Zy Yb xs)
theorem Yx {ρ : Nat → Nat} (x : Option Yg) : (gP Zm x).ren ρ = gP Zm x := Vs ρ _ (Jm Yb x)
theorem Y5 {k : Nat} (xs : List Yg) : G.unders k (fl Zm xs) = true := Yi _ _ (Zy Yb xs)
mutual
def Qe : S_api_Tree → List G
 | ⟨f0, f1, f2⟩ => [.val (.int .i64 f0), .sl f1.length (fl (eI .u64) f1), .sl f2.length (Qf f2)]
def Qf : List S_api_Tree → List G
 | [] => []
 | x :: xs => Qe x ++ Qf xs
end
theorem Zag : ∀ xs, Qf xs = fl Qe xs
 | [] => by simp [Qf, fl]
 | x :: xs => by rw [Qf, Qw, Zag xs]
def Zr (x : S_api_Tree) : List G := [.val (.int .i64 x.Kind), .sl x.Words.length (fl (eI .u64) x.Words), .sl x.Kids.length (fl Qe x.Kids)]
theorem Xv : Qe = Zr := by
 funext x
 obtain ⟨_, _, _⟩ := x
 simp only [Qe, Zag, Zr, List.cons_append, List.nil_append, List.append_nil]
mutual
theorem Zcj : ∀ x, G.pures (Qe x) = true
 | ⟨f0, f1, f2⟩ => by simp [Qe, eP, Jm, eI, eB, eS, eL, G.pures, G.pure, Zdj, Zy, Zbi f2, Xx, Yw, Z6, Jl, Yb]
theorem Zbi : ∀ xs, G.pures (Qf xs) = true
 | [] => rfl
 | x :: xs => by simp [Qf, Zdj, Zcj x, Zbi xs]
end
theorem Xn : ∀ x, G.pures (Zr x) = true := fun x => by rw [← Xv]; exact Zcj x
theorem Qr {O O' : Objs} {n : Nat} (xs : List S_api_Tree) : Kh O O' n (fl Zr xs) (fl Zr xs) := Za6 (Zy Xn xs)
theorem Qq {O O' : Objs} {n : Nat} (xs : List S_api_Tree) (b b' : List G) : Kh O O' n (fl Zr xs ++ b) (fl Zr xs ++ b') = Kh O O' n b b' := Ga b b' _ (Zy Xn xs)
theorem Qj (xs : List S_api_Tree) : (fl Zr xs).length = xs.length * 3 := X4 (f := Zr) (k := 3) (fun _ => rfl) xs
theorem Qm (xs : List S_api_Tree) : (fl Zr xs).all G.one = true := J8 (fun x => by simp [eI, eB, eS, eL, eP, Ur, G.one, Value.oneCell', Zr]) xs
theorem Qs {O O' : Objs} {n : Nat} (x : Option S_api_Tree) : wk O O' n (gP Zr x) (gP Zr x) = True := Zks Xn x
theorem Qd {k : Nat} (x : Option S_api_Tree) : (gP Zr x).under k = true := U4 Xn k x
theorem Qc {ρ : Nat → Nat} (xs : List S_api_Tree) : G.rens ρ (fl Zr xs) = fl Zr xs := X5 ρ _ (Zy Xn xs)
theorem Qb {ρ : Nat → Nat} (x : Option S_api_Tree) : (gP Zr x).ren ρ = gP Zr x := Vs ρ _ (Jm Xn x)
theorem Qp {k : Nat} (xs : List S_api_Tree) : G.unders k (fl Zr xs) = true := Yi _ _ (Zy Xn xs)
def Zl (x : Zg) : List G := [(gP Zd x.a), .val (.int .i64 x.kind), .val (.int .i64 x.segment), .val (.int .i64 x.at_), .val (.int .i64 x.words), .val (.int .i64 x.ptrs), .val (.int .i64 x.count), .val (.int .i64 x.code), .val (.int .i64 x.index)]
def Yl (x : Zz) : List G := [.val (.int .i64 x.Kind), .val (.int .i64 x.Off), .val (.int .i64 x.Data), .val (.int .i64 x.Ptrs), .val (.int .i64 x.Code), .val (.int .i64 x.Count), .val (.int .i64 x.Segment), .val (.bool x.Double)]
def Xy (x : Zad) : List G := [.val (.int .i64 x.Kind), .val (.int .i64 x.S), .val (.int .i64 x.At), .val (.int .i64 x.Data), .val (.int .i64 x.Ptrs), .val (.int .i64 x.Count), .val (.int .u64 x.N)]
def Kj (x : S_api_Tree) : List G := [.val (.int .i64 x.Kind), .sl x.Words.length (fl (eI .u64) x.Words), .sl x.Kids.length (fl Zr x.Kids)]
def Q9 (x : Zea) : List G := [.val (.int .i64 x.Depth), .val (.int .i64 x.Weight), .val (.int .i64 x.MaxD), .val (.int .i64 x.MaxOut)]
end Go.Proofs.Ytmlhokaflhlhbaa
