/- Part VE of this seat's mirrors: functions of the seat's program, and the plain functions that they are; each theorem bears its own conditions. -/
import Derived.Test.YtmlhokaflhlhbaaTy
import Derived.Test.YtmlhokaflhlhbaaVD
namespace Go.Proofs.Ytmlhokaflhlhbaa
open Go.RowKit
set_option linter.unusedVariables false
set_option linter.unusedSimpArgs false
set_option maxRecDepth 100000
set_option maxHeartbeats 4000000
theorem Qb : ∀ x, G.pures ((eI .u64) x) = true := fun x => by simp [eI, eB, eS, eL, eP, G.pures, G.pure, Z5, Kb]
theorem Zae {O O' : Objs} {n : Nat} (xs : List Int) : K4 O O' n (fl (eI .u64) xs) (fl (eI .u64) xs) := Zb1 (Z5 Qb xs)
theorem Zab {O O' : Objs} {n : Nat} (xs : List Int) (b b' : List G) : K4 O O' n (fl (eI .u64) xs ++ b) (fl (eI .u64) xs ++ b') = K4 O O' n b b' := Zaf b b' _ (Z5 Qb xs)
theorem Gi (xs : List Int) : (fl (eI .u64) xs).length = xs.length * 1 := Jr (f := (eI .u64)) (k := 1) (fun _ => rfl) xs
theorem Gk (xs : List Int) : (fl (eI .u64) xs).all G.one = true := Kw (fun x => by simp [eI, eB, eS, eL, eP, Gl, G.one, Value.oneCell']) xs
theorem Zah {O O' : Objs} {n : Nat} (x : Option Int) : wk O O' n (gP (eI .u64) x) (gP (eI .u64) x) = True := Zlt Qb x
theorem Uo {k : Nat} (x : Option Int) : (gP (eI .u64) x).under k = true := G0 Qb k x
theorem Ul {ρ : Nat → Nat} (xs : List Int) : G.rens ρ (fl (eI .u64) xs) = fl (eI .u64) xs := Qq ρ _ (Z5 Qb xs)
theorem Uj {ρ : Nat → Nat} (x : Option Int) : (gP (eI .u64) x).ren ρ = gP (eI .u64) x := Uh ρ _ (Kb Qb x)
theorem Gz {k : Nat} (xs : List Int) : G.unders k (fl (eI .u64) xs) = true := Yo _ _ (Z5 Qb xs)
theorem Y8 : ∀ x, G.pures ((eL (eI .u64)) x) = true := fun x => by simp [eI, eB, eS, eL, eP, G.pures, G.pure, Z5, Kb, Qb]
theorem Ks {O O' : Objs} {n : Nat} (xs : List (List Int)) : K4 O O' n (fl (eL (eI .u64)) xs) (fl (eL (eI .u64)) xs) := Zb1 (Z5 Y8 xs)
theorem Kr {O O' : Objs} {n : Nat} (xs : List (List Int)) (b b' : List G) : K4 O O' n (fl (eL (eI .u64)) xs ++ b) (fl (eL (eI .u64)) xs ++ b') = K4 O O' n b b' := Zaf b b' _ (Z5 Y8 xs)
theorem Ki (xs : List (List Int)) : (fl (eL (eI .u64)) xs).length = xs.length * 1 := Jr (f := (eL (eI .u64))) (k := 1) (fun _ => rfl) xs
theorem Ko (xs : List (List Int)) : (fl (eL (eI .u64)) xs).all G.one = true := Kw (fun x => by simp [eI, eB, eS, eL, eP, Gl, G.one, Value.oneCell']) xs
theorem Kt {O O' : Objs} {n : Nat} (x : Option (List Int)) : wk O O' n (gP (eL (eI .u64)) x) (gP (eL (eI .u64)) x) = True := Zlt Y8 x
theorem J5 {k : Nat} (x : Option (List Int)) : (gP (eL (eI .u64)) x).under k = true := G0 Y8 k x
theorem J4 {ρ : Nat → Nat} (xs : List (List Int)) : G.rens ρ (fl (eL (eI .u64)) xs) = fl (eL (eI .u64)) xs := Qq ρ _ (Z5 Y8 xs)
theorem J3 {ρ : Nat → Nat} (x : Option (List Int)) : (gP (eL (eI .u64)) x).ren ρ = gP (eL (eI .u64)) x := Uh ρ _ (Kb Y8 x)
theorem Kq {k : Nat} (xs : List (List Int)) : G.unders k (fl (eL (eI .u64)) xs) = true := Yo _ _ (Z5 Y8 xs)
def Zf (x : Zg) : List G := [.sl x.segments.length (fl (eL (eI .u64)) x.segments), .val (.int .i64 x.size), .val (.int .i64 x.left)]
theorem Ya : ∀ x, G.pures (Zf x) = true := fun x => by simp [eI, eB, eS, eL, eP, G.pures, G.pure, Z5, Kb, Zf, Qb, Y8]
theorem X7 {O O' : Objs} {n : Nat} (xs : List Zg) : K4 O O' n (fl Zf xs) (fl Zf xs) := Zb1 (Z5 Ya xs)
theorem X6 {O O' : Objs} {n : Nat} (xs : List Zg) (b b' : List G) : K4 O O' n (fl Zf xs ++ b) (fl Zf xs ++ b') = K4 O O' n b b' := Zaf b b' _ (Z5 Ya xs)
theorem X3 (xs : List Zg) : (fl Zf xs).length = xs.length * 3 := Jr (f := Zf) (k := 3) (fun _ => rfl) xs
theorem X4 (xs : List Zg) : (fl Zf xs).all G.one = true := Kw (fun x => by simp [eI, eB, eS, eL, eP, Gl, G.one, Value.oneCell', Zf]) xs
theorem X8 {O O' : Objs} {n : Nat} (x : Option Zg) : wk O O' n (gP Zf x) (gP Zf x) = True := Zlt Ya x
theorem Xw {k : Nat} (x : Option Zg) : (gP Zf x).under k = true := G0 Ya k x
theorem Xu {ρ : Nat → Nat} (xs : List Zg) : G.rens ρ (fl Zf xs) = fl Zf xs := Qq ρ _ (Z5 Ya xs)
theorem Xt {ρ : Nat → Nat} (x : Option Zg) : (gP Zf x).ren ρ = gP Zf x := Uh ρ _ (Kb Ya x)
theorem X5 {k : Nat} (xs : List Zg) : G.unders k (fl Zf xs) = true := Yo _ _ (Z5 Ya xs)
def V5 (x : Z7) : List G := [.val (.int .i64 x.Kind), .val (.int .i64 x.Off), .val (.int .i64 x.Data), .val (.int .i64 x.Ptrs), .val (.int .i64 x.Code), .val (.int .i64 x.Count), .val (.int .i64 x.Segment), .val (.bool x.Double)]
theorem Ka : ∀ x, G.pures ((eI .i64) x) = true := fun x => by simp [eI, eB, eS, eL, eP, G.pures, G.pure, Z5, Kb, Qb, Y8, Ya]
theorem Zad {O O' : Objs} {n : Nat} (xs : List Int) : K4 O O' n (fl (eI .i64) xs) (fl (eI .i64) xs) := Zb1 (Z5 Ka xs)
theorem Zaa {O O' : Objs} {n : Nat} (xs : List Int) (b b' : List G) : K4 O O' n (fl (eI .i64) xs ++ b) (fl (eI .i64) xs ++ b') = K4 O O' n b b' := Zaf b b' _ (Z5 Ka xs)
theorem Gh (xs : List Int) : (fl (eI .i64) xs).length = xs.length * 1 := Jr (f := (eI .i64)) (k := 1) (fun _ => rfl) xs
theorem Gj (xs : List Int) : (fl (eI .i64) xs).all G.one = true := Kw (fun x => by simp [eI, eB, eS, eL, eP, Gl, G.one, Value.oneCell']) xs
theorem Zag {O O' : Objs} {n : Nat} (x : Option Int) : wk O O' n (gP (eI .i64) x) (gP (eI .i64) x) = True := Zlt Ka x
theorem Un {k : Nat} (x : Option Int) : (gP (eI .i64) x).under k = true := G0 Ka k x
theorem Uk {ρ : Nat → Nat} (xs : List Int) : G.rens ρ (fl (eI .i64) xs) = fl (eI .i64) xs := Qq ρ _ (Z5 Ka xs)
theorem Ui {ρ : Nat → Nat} (x : Option Int) : (gP (eI .i64) x).ren ρ = gP (eI .i64) x := Uh ρ _ (Kb Ka x)
theorem Gy {k : Nat} (xs : List Int) : G.unders k (fl (eI .i64) xs) = true := Yo _ _ (Z5 Ka xs)
def V4 (x : Yg) : List G := [.val (.int .i64 x.P.Kind), .val (.int .i64 x.P.Off), .val (.int .i64 x.P.Data), .val (.int .i64 x.P.Ptrs), .val (.int .i64 x.P.Code), .val (.int .i64 x.P.Count), .val (.int .i64 x.P.Segment), .val (.bool x.P.Double), .val (.int .i64 x.Segment), .val (.int .i64 x.At)]
def Jy (x : Zd) : List G := [(gP Zf x.a), .val (.int .i64 x.kind), .val (.int .i64 x.segment), .val (.int .i64 x.at_), .val (.int .i64 x.words), .val (.int .i64 x.ptrs), .val (.int .i64 x.count), .val (.int .i64 x.code), .val (.int .i64 x.index)]
def Qe (x : Zh0) : List G := [.val (.int .i64 x.P.Kind), .val (.int .i64 x.P.Off), .val (.int .i64 x.P.Data), .val (.int .i64 x.P.Ptrs), .val (.int .i64 x.P.Code), .val (.int .i64 x.P.Count), .val (.int .i64 x.P.Segment), .val (.bool x.P.Double), .val (.int .i64 x.Segment), .val (.int .i64 x.At)]
def Qf (x : Za7) : List G := [.val (.int .i64 x.Kind), .val (.int .i64 x.S), .val (.int .i64 x.At), .val (.int .i64 x.Data), .val (.int .i64 x.Ptrs), .val (.int .i64 x.Count), .val (.int .u64 x.N)]
def Y5 (x : Zv) : List G := [.val (.int .i64 x.Depth), .val (.int .i64 x.Weight), .val (.int .i64 x.MaxD), .val (.int .i64 x.MaxOut)]
def Zo (x : Zc) : List G := [.val (.int .i64 x.left)]
theorem Yf : ∀ x, G.pures (Zo x) = true := fun x => by simp [eI, eB, eS, eL, eP, G.pures, G.pure, Z5, Kb, Zo, Qb, Y8, Ya, Ka]
theorem Xi {O O' : Objs} {n : Nat} (xs : List Zc) : K4 O O' n (fl Zo xs) (fl Zo xs) := Zb1 (Z5 Yf xs)
theorem Xh {O O' : Objs} {n : Nat} (xs : List Zc) (b b' : List G) : K4 O O' n (fl Zo xs ++ b) (fl Zo xs ++ b') = K4 O O' n b b' := Zaf b b' _ (Z5 Yf xs)
theorem Xd (xs : List Zc) : (fl Zo xs).length = xs.length * 1 := Jr (f := Zo) (k := 1) (fun _ => rfl) xs
theorem Xe (xs : List Zc) : (fl Zo xs).all G.one = true := Kw (fun x => by simp [eI, eB, eS, eL, eP, Gl, G.one, Value.oneCell', Zo]) xs
theorem Xj {O O' : Objs} {n : Nat} (x : Option Zc) : wk O O' n (gP Zo x) (gP Zo x) = True := Zlt Yf x
theorem Xb {k : Nat} (x : Option Zc) : (gP Zo x).under k = true := G0 Yf k x
theorem Xa {ρ : Nat → Nat} (xs : List Zc) : G.rens ρ (fl Zo xs) = fl Zo xs := Qq ρ _ (Z5 Yf xs)
theorem Y9 {ρ : Nat → Nat} (x : Option Zc) : (gP Zo x).ren ρ = gP Zo x := Uh ρ _ (Kb Yf x)
theorem Xf {k : Nat} (xs : List Zc) : G.unders k (fl Zo xs) = true := Yo _ _ (Z5 Yf xs)
mutual
def Qz : Yt → List G
 | ⟨f0, f1, f2⟩ => [.val (.int .i64 f0), .sl f1.length (fl (eI .u64) f1), .sl f2.length (Q0 f2)]
def Q0 : List Yt → List G
 | [] => []
 | x :: xs => Qz x ++ Q0 xs
end
theorem Za9 : ∀ xs, Q0 xs = fl Qz xs
 | [] => by simp [Q0, fl]
 | x :: xs => by rw [Q0, Ji, Za9 xs]
def Zx (x : Yt) : List G := [.val (.int .i64 x.Kind), .sl x.Words.length (fl (eI .u64) x.Words), .sl x.Kids.length (fl Qz x.Kids)]
theorem X9 : Qz = Zx := by
 funext x
 obtain ⟨_, _, _⟩ := x
 simp only [Qz, Za9, Zx, List.cons_append, List.nil_append, List.append_nil]
mutual
theorem Zdl : ∀ x, G.pures (Qz x) = true
 | ⟨f0, f1, f2⟩ => by simp [Qz, eP, Kb, eI, eB, eS, eL, G.pures, G.pure, Zen, Z5, Zcl f2, Qb, Y8, Ya, Ka, Yf]
theorem Zcl : ∀ xs, G.pures (Q0 xs) = true
 | [] => rfl
 | x :: xs => by simp [Q0, Zen, Zdl x, Zcl xs]
end
theorem X2 : ∀ x, G.pures (Zx x) = true := fun x => by rw [← X9]; exact Zdl x
theorem Je {O O' : Objs} {n : Nat} (xs : List Yt) : K4 O O' n (fl Zx xs) (fl Zx xs) := Zb1 (Z5 X2 xs)
theorem Jd {O O' : Objs} {n : Nat} (xs : List Yt) (b b' : List G) : K4 O O' n (fl Zx xs ++ b) (fl Zx xs ++ b') = K4 O O' n b b' := Zaf b b' _ (Z5 X2 xs)
theorem Q5 (xs : List Yt) : (fl Zx xs).length = xs.length * 3 := Jr (f := Zx) (k := 3) (fun _ => rfl) xs
theorem Q8 (xs : List Yt) : (fl Zx xs).all G.one = true := Kw (fun x => by simp [eI, eB, eS, eL, eP, Gl, G.one, Value.oneCell', Zx]) xs
theorem Jf {O O' : Objs} {n : Nat} (x : Option Yt) : wk O O' n (gP Zx x) (gP Zx x) = True := Zlt X2 x
theorem Qy {k : Nat} (x : Option Yt) : (gP Zx x).under k = true := G0 X2 k x
theorem Qx {ρ : Nat → Nat} (xs : List Yt) : G.rens ρ (fl Zx xs) = fl Zx xs := Qq ρ _ (Z5 X2 xs)
theorem Qw {ρ : Nat → Nat} (x : Option Yt) : (gP Zx x).ren ρ = gP Zx x := Uh ρ _ (Kb X2 x)
theorem Jc {k : Nat} (xs : List Yt) : G.unders k (fl Zx xs) = true := Yo _ _ (Z5 X2 xs)
def Zi (x : Zd) : List G := [(gP Zf x.a), .val (.int .i64 x.kind), .val (.int .i64 x.segment), .val (.int .i64 x.at_), .val (.int .i64 x.words), .val (.int .i64 x.ptrs), .val (.int .i64 x.count), .val (.int .i64 x.code), .val (.int .i64 x.index)]
def Yr (x : Z7) : List G := [.val (.int .i64 x.Kind), .val (.int .i64 x.Off), .val (.int .i64 x.Data), .val (.int .i64 x.Ptrs), .val (.int .i64 x.Code), .val (.int .i64 x.Count), .val (.int .i64 x.Segment), .val (.bool x.Double)]
def Qd (x : Za7) : List G := [.val (.int .i64 x.Kind), .val (.int .i64 x.S), .val (.int .i64 x.At), .val (.int .i64 x.Data), .val (.int .i64 x.Ptrs), .val (.int .i64 x.Count), .val (.int .u64 x.N)]
def K8 (x : Yt) : List G := [.val (.int .i64 x.Kind), .sl x.Words.length (fl (eI .u64) x.Words), .sl x.Kids.length (fl Zx x.Kids)]
def Z6 (x : Zv) : List G := [.val (.int .i64 x.Depth), .val (.int .i64 x.Weight), .val (.int .i64 x.MaxD), .val (.int .i64 x.MaxOut)]
end Go.Proofs.Ytmlhokaflhlhbaa
