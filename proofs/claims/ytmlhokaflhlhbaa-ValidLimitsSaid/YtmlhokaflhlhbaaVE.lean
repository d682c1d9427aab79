/- Part VE of this seat's mirrors: functions of the seat's program, and the plain functions that they are; each theorem bears its own conditions. -/
import Derived.Test.YtmlhokaflhlhbaaTy
import Derived.Test.YtmlhokaflhlhbaaVD
namespace Go.Proofs.Ytmlhokaflhlhbaa
open Go.RowKit
set_option linter.unusedVariables false
set_option linter.unusedSimpArgs false
set_option maxRecDepth 100000
set_option maxHeartbeats 4000000
theorem X9 : ∀ x, G.pures ((eI .u64) x) = true := fun x => by simp [eI, eB, eS, eL, eP, G.pures, G.pure, Z3, J8]
theorem Zaf {O O' : Objs} {n : Nat} (xs : List Int) : K0 O O' n (fl (eI .u64) xs) (fl (eI .u64) xs) := Zb2 (Z3 X9 xs)
theorem Zac {O O' : Objs} {n : Nat} (xs : List Int) (b b' : List G) : K0 O O' n (fl (eI .u64) xs ++ b) (fl (eI .u64) xs ++ b') = K0 O O' n b b' := Zag b b' _ (Z3 X9 xs)
theorem Gh (xs : List Int) : (fl (eI .u64) xs).length = xs.length * 1 := Jl (f := (eI .u64)) (k := 1) (fun _ => rfl) xs
theorem Gl (xs : List Int) : (fl (eI .u64) xs).all G.one = true := Ks (fun x => by simp [eI, eB, eS, eL, eP, Gm, G.one, Value.oneCell']) xs
theorem Zai {O O' : Objs} {n : Nat} (x : Option Int) : wk O O' n (gP (eI .u64) x) (gP (eI .u64) x) = True := Zlq X9 x
theorem Uj {k : Nat} (x : Option Int) : (gP (eI .u64) x).under k = true := Zaa X9 k x
theorem Ug {ρ : Nat → Nat} (xs : List Int) : G.rens ρ (fl (eI .u64) xs) = fl (eI .u64) xs := Qn ρ _ (Z3 X9 xs)
theorem Ue {ρ : Nat → Nat} (x : Option Int) : (gP (eI .u64) x).ren ρ = gP (eI .u64) x := Uc ρ _ (J8 X9 x)
theorem G0 {k : Nat} (xs : List Int) : G.unders k (fl (eI .u64) xs) = true := Yq _ _ (Z3 X9 xs)
theorem Y8 : ∀ x, G.pures ((eL (eI .u64)) x) = true := fun x => by simp [eI, eB, eS, eL, eP, G.pures, G.pure, Z3, J8, X9]
theorem Kp {O O' : Objs} {n : Nat} (xs : List (List Int)) : K0 O O' n (fl (eL (eI .u64)) xs) (fl (eL (eI .u64)) xs) := Zb2 (Z3 Y8 xs)
theorem Ko {O O' : Objs} {n : Nat} (xs : List (List Int)) (b b' : List G) : K0 O O' n (fl (eL (eI .u64)) xs ++ b) (fl (eL (eI .u64)) xs ++ b') = K0 O O' n b b' := Zag b b' _ (Z3 Y8 xs)
theorem Kf (xs : List (List Int)) : (fl (eL (eI .u64)) xs).length = xs.length * 1 := Jl (f := (eL (eI .u64))) (k := 1) (fun _ => rfl) xs
theorem Kk (xs : List (List Int)) : (fl (eL (eI .u64)) xs).all G.one = true := Ks (fun x => by simp [eI, eB, eS, eL, eP, Gm, G.one, Value.oneCell']) xs
theorem Kq {O O' : Objs} {n : Nat} (x : Option (List Int)) : wk O O' n (gP (eL (eI .u64)) x) (gP (eL (eI .u64)) x) = True := Zlq Y8 x
theorem Jz {k : Nat} (x : Option (List Int)) : (gP (eL (eI .u64)) x).under k = true := Zaa Y8 k x
theorem Jy {ρ : Nat → Nat} (xs : List (List Int)) : G.rens ρ (fl (eL (eI .u64)) xs) = fl (eL (eI .u64)) xs := Qn ρ _ (Z3 Y8 xs)
theorem Jx {ρ : Nat → Nat} (x : Option (List Int)) : (gP (eL (eI .u64)) x).ren ρ = gP (eL (eI .u64)) x := Uc ρ _ (J8 Y8 x)
theorem Km {k : Nat} (xs : List (List Int)) : G.unders k (fl (eL (eI .u64)) xs) = true := Yq _ _ (Z3 Y8 xs)
def Zf (x : Zg) : List G := [.sl x.segments.length (fl (eL (eI .u64)) x.segments), .val (.int .i64 x.size), .val (.int .i64 x.left)]
theorem Ya : ∀ x, G.pures (Zf x) = true := fun x => by simp [eI, eB, eS, eL, eP, G.pures, G.pure, Z3, J8, Zf, X9, Y8]
theorem X3 {O O' : Objs} {n : Nat} (xs : List Zg) : K0 O O' n (fl Zf xs) (fl Zf xs) := Zb2 (Z3 Ya xs)
theorem X2 {O O' : Objs} {n : Nat} (xs : List Zg) (b b' : List G) : K0 O O' n (fl Zf xs ++ b) (fl Zf xs ++ b') = K0 O O' n b b' := Zag b b' _ (Z3 Ya xs)
theorem Xy (xs : List Zg) : (fl Zf xs).length = xs.length * 3 := Jl (f := Zf) (k := 3) (fun _ => rfl) xs
theorem X0 (xs : List Zg) : (fl Zf xs).all G.one = true := Ks (fun x => by simp [eI, eB, eS, eL, eP, Gm, G.one, Value.oneCell', Zf]) xs
theorem X4 {O O' : Objs} {n : Nat} (x : Option Zg) : wk O O' n (gP Zf x) (gP Zf x) = True := Zlq Ya x
theorem Xv {k : Nat} (x : Option Zg) : (gP Zf x).under k = true := Zaa Ya k x
theorem Xt {ρ : Nat → Nat} (xs : List Zg) : G.rens ρ (fl Zf xs) = fl Zf xs := Qn ρ _ (Z3 Ya xs)
theorem Xs {ρ : Nat → Nat} (x : Option Zg) : (gP Zf x).ren ρ = gP Zf x := Uc ρ _ (J8 Ya x)
theorem X1 {k : Nat} (xs : List Zg) : G.unders k (fl Zf xs) = true := Yq _ _ (Z3 Ya xs)
def V0 (x : Z7) : List G := [.val (.int .i64 x.Kind), .val (.int .i64 x.Off), .val (.int .i64 x.Data), .val (.int .i64 x.Ptrs), .val (.int .i64 x.Code), .val (.int .i64 x.Count), .val (.int .i64 x.Segment), .val (.bool x.Double)]
theorem J7 : ∀ x, G.pures ((eI .i64) x) = true := fun x => by simp [eI, eB, eS, eL, eP, G.pures, G.pure, Z3, J8, X9, Y8, Ya]
theorem Zae {O O' : Objs} {n : Nat} (xs : List Int) : K0 O O' n (fl (eI .i64) xs) (fl (eI .i64) xs) := Zb2 (Z3 J7 xs)
theorem Zab {O O' : Objs} {n : Nat} (xs : List Int) (b b' : List G) : K0 O O' n (fl (eI .i64) xs ++ b) (fl (eI .i64) xs ++ b') = K0 O O' n b b' := Zag b b' _ (Z3 J7 xs)
theorem Gg (xs : List Int) : (fl (eI .i64) xs).length = xs.length * 1 := Jl (f := (eI .i64)) (k := 1) (fun _ => rfl) xs
theorem Gk (xs : List Int) : (fl (eI .i64) xs).all G.one = true := Ks (fun x => by simp [eI, eB, eS, eL, eP, Gm, G.one, Value.oneCell']) xs
theorem Zah {O O' : Objs} {n : Nat} (x : Option Int) : wk O O' n (gP (eI .i64) x) (gP (eI .i64) x) = True := Zlq J7 x
theorem Ui {k : Nat} (x : Option Int) : (gP (eI .i64) x).under k = true := Zaa J7 k x
theorem Uf {ρ : Nat → Nat} (xs : List Int) : G.rens ρ (fl (eI .i64) xs) = fl (eI .i64) xs := Qn ρ _ (Z3 J7 xs)
theorem Ud {ρ : Nat → Nat} (x : Option Int) : (gP (eI .i64) x).ren ρ = gP (eI .i64) x := Uc ρ _ (J8 J7 x)
theorem Gz {k : Nat} (xs : List Int) : G.unders k (fl (eI .i64) xs) = true := Yq _ _ (Z3 J7 xs)
def Vz (x : Yg) : List G := [.val (.int .i64 x.P.Kind), .val (.int .i64 x.P.Off), .val (.int .i64 x.P.Data), .val (.int .i64 x.P.Ptrs), .val (.int .i64 x.P.Code), .val (.int .i64 x.P.Count), .val (.int .i64 x.P.Segment), .val (.bool x.P.Double), .val (.int .i64 x.Segment), .val (.int .i64 x.At)]
def Jt (x : Zd) : List G := [(gP Zf x.a), .val (.int .i64 x.kind), .val (.int .i64 x.segment), .val (.int .i64 x.at_), .val (.int .i64 x.words), .val (.int .i64 x.ptrs), .val (.int .i64 x.count), .val (.int .i64 x.code), .val (.int .i64 x.index)]
def Qc (x : Zh2) : List G := [.val (.int .i64 x.P.Kind), .val (.int .i64 x.P.Off), .val (.int .i64 x.P.Data), .val (.int .i64 x.P.Ptrs), .val (.int .i64 x.P.Code), .val (.int .i64 x.P.Count), .val (.int .i64 x.P.Segment), .val (.bool x.P.Double), .val (.int .i64 x.Segment), .val (.int .i64 x.At)]
def Qd (x : Za8) : List G := [.val (.int .i64 x.Kind), .val (.int .i64 x.S), .val (.int .i64 x.At), .val (.int .i64 x.Data), .val (.int .i64 x.Ptrs), .val (.int .i64 x.Count), .val (.int .u64 x.N)]
def Y4 (x : Zp) : List G := [.val (.int .i64 x.Depth), .val (.int .i64 x.Weight), .val (.int .i64 x.MaxD), .val (.int .i64 x.MaxOut)]
def Zo (x : Zc) : List G := [.val (.int .i64 x.left)]
theorem Yf : ∀ x, G.pures (Zo x) = true := fun x => by simp [eI, eB, eS, eL, eP, G.pures, G.pure, Z3, J8, Zo, X9, Y8, Ya, J7]
theorem Xj {O O' : Objs} {n : Nat} (xs : List Zc) : K0 O O' n (fl Zo xs) (fl Zo xs) := Zb2 (Z3 Yf xs)
theorem Xi {O O' : Objs} {n : Nat} (xs : List Zc) (b b' : List G) : K0 O O' n (fl Zo xs ++ b) (fl Zo xs ++ b') = K0 O O' n b b' := Zag b b' _ (Z3 Yf xs)
theorem Xe (xs : List Zc) : (fl Zo xs).length = xs.length * 1 := Jl (f := Zo) (k := 1) (fun _ => rfl) xs
theorem Xf (xs : List Zc) : (fl Zo xs).all G.one = true := Ks (fun x => by simp [eI, eB, eS, eL, eP, Gm, G.one, Value.oneCell', Zo]) xs
theorem Xk {O O' : Objs} {n : Nat} (x : Option Zc) : wk O O' n (gP Zo x) (gP Zo x) = True := Zlq Yf x
theorem Xb {k : Nat} (x : Option Zc) : (gP Zo x).under k = true := Zaa Yf k x
theorem Xa {ρ : Nat → Nat} (xs : List Zc) : G.rens ρ (fl Zo xs) = fl Zo xs := Qn ρ _ (Z3 Yf xs)
theorem Y9 {ρ : Nat → Nat} (x : Option Zc) : (gP Zo x).ren ρ = gP Zo x := Uc ρ _ (J8 Yf x)
theorem Xg {k : Nat} (xs : List Zc) : G.unders k (fl Zo xs) = true := Yq _ _ (Z3 Yf xs)
mutual
def Qx : Yv → List G
 | ⟨f0, f1, f2⟩ => [.val (.int .i64 f0), .sl f1.length (fl (eI .u64) f1), .sl f2.length (Qy f2)]
def Qy : List Yv → List G
 | [] => []
 | x :: xs => Qx x ++ Qy xs
end
theorem Zbb : ∀ xs, Qy xs = fl Qx xs
 | [] => by simp [Qy, fl]
 | x :: xs => by rw [Qy, Jc, Zbb xs]
def Zy (x : Yv) : List G := [.val (.int .i64 x.Kind), .sl x.Words.length (fl (eI .u64) x.Words), .sl x.Kids.length (fl Qx x.Kids)]
theorem X6 : Qx = Zy := by
 funext x
 obtain ⟨_, _, _⟩ := x
 simp only [Qx, Zbb, Zy, List.cons_append, List.nil_append, List.append_nil]
mutual
theorem Zdl : ∀ x, G.pures (Qx x) = true
 | ⟨f0, f1, f2⟩ => by simp [Qx, eP, J8, eI, eB, eS, eL, G.pures, G.pure, Zel, Z3, Zcl f2, X9, Y8, Ya, J7, Yf]
theorem Zcl : ∀ xs, G.pures (Qy xs) = true
 | [] => rfl
 | x :: xs => by simp [Qy, Zel, Zdl x, Zcl xs]
end
theorem Xx : ∀ x, G.pures (Zy x) = true := fun x => by rw [← X6]; exact Zdl x
theorem Q8 {O O' : Objs} {n : Nat} (xs : List Yv) : K0 O O' n (fl Zy xs) (fl Zy xs) := Zb2 (Z3 Xx xs)
theorem Q7 {O O' : Objs} {n : Nat} (xs : List Yv) (b b' : List G) : K0 O O' n (fl Zy xs ++ b) (fl Zy xs ++ b') = K0 O O' n b b' := Zag b b' _ (Z3 Xx xs)
theorem Q1 (xs : List Yv) : (fl Zy xs).length = xs.length * 3 := Jl (f := Zy) (k := 3) (fun _ => rfl) xs
theorem Q3 (xs : List Yv) : (fl Zy xs).all G.one = true := Ks (fun x => by simp [eI, eB, eS, eL, eP, Gm, G.one, Value.oneCell', Zy]) xs
theorem Q9 {O O' : Objs} {n : Nat} (x : Option Yv) : wk O O' n (gP Zy x) (gP Zy x) = True := Zlq Xx x
theorem Qw {k : Nat} (x : Option Yv) : (gP Zy x).under k = true := Zaa Xx k x
theorem Qv {ρ : Nat → Nat} (xs : List Yv) : G.rens ρ (fl Zy xs) = fl Zy xs := Qn ρ _ (Z3 Xx xs)
theorem Qu {ρ : Nat → Nat} (x : Option Yv) : (gP Zy x).ren ρ = gP Zy x := Uc ρ _ (J8 Xx x)
theorem Q6 {k : Nat} (xs : List Yv) : G.unders k (fl Zy xs) = true := Yq _ _ (Z3 Xx xs)
def Zi (x : Zd) : List G := [(gP Zf x.a), .val (.int .i64 x.kind), .val (.int .i64 x.segment), .val (.int .i64 x.at_), .val (.int .i64 x.words), .val (.int .i64 x.ptrs), .val (.int .i64 x.count), .val (.int .i64 x.code), .val (.int .i64 x.index)]
def Yt (x : Z7) : List G := [.val (.int .i64 x.Kind), .val (.int .i64 x.Off), .val (.int .i64 x.Data), .val (.int .i64 x.Ptrs), .val (.int .i64 x.Code), .val (.int .i64 x.Count), .val (.int .i64 x.Segment), .val (.bool x.Double)]
def Qb (x : Za8) : List G := [.val (.int .i64 x.Kind), .val (.int .i64 x.S), .val (.int .i64 x.At), .val (.int .i64 x.Data), .val (.int .i64 x.Ptrs), .val (.int .i64 x.Count), .val (.int .u64 x.N)]
def K4 (x : Yv) : List G := [.val (.int .i64 x.Kind), .sl x.Words.length (fl (eI .u64) x.Words), .sl x.Kids.length (fl Zy x.Kids)]
def Z6 (x : Zp) : List G := [.val (.int .i64 x.Depth), .val (.int .i64 x.Weight), .val (.int .i64 x.MaxD), .val (.int .i64 x.MaxOut)]
end Go.Proofs.Ytmlhokaflhlhbaa
