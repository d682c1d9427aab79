/- Part VE of this seat's mirrors: functions of the seat's program, and the plain functions that they are; each theorem bears its own conditions. -/
import Derived.Test.YtmlhokaflhlhbaaTy
import Derived.Test.YtmlhokaflhlhbaaVD
namespace Go.Proofs.Ytmlhokaflhlhbaa
open Go.RowKit
set_option linter.unusedVariables false
set_option linter.unusedSimpArgs false
set_option maxRecDepth 100000
set_option maxHeartbeats 4000000
theorem X9 : ∀ x, G.pures ((eI .u64) x) = true := fun x => by simp [eI, eB, eS, eL, eP, G.pures, G.pure, Z3, J5]
theorem Zab {O O' : Objs} {n : Nat} (xs : List Int) : K0 O O' n (fl (eI .u64) xs) (fl (eI .u64) xs) := Zb0 (Z3 X9 xs)
theorem Gz {O O' : Objs} {n : Nat} (xs : List Int) (b b' : List G) : K0 O O' n (fl (eI .u64) xs ++ b) (fl (eI .u64) xs ++ b') = K0 O O' n b b' := Zac b b' _ (Z3 X9 xs)
theorem Gf (xs : List Int) : (fl (eI .u64) xs).length = xs.length * 1 := Qm (f := (eI .u64)) (k := 1) (fun _ => rfl) xs
theorem Gh (xs : List Int) : (fl (eI .u64) xs).all G.one = true := Kr (fun x => by simp [eI, eB, eS, eL, eP, Gi, G.one, Value.oneCell']) xs
theorem Zae {O O' : Objs} {n : Nat} (x : Option Int) : wk O O' n (gP (eI .u64) x) (gP (eI .u64) x) = True := Zlz X9 x
theorem Ul {k : Nat} (x : Option Int) : (gP (eI .u64) x).under k = true := Gx X9 k x
theorem Ui {ρ : Nat → Nat} (xs : List Int) : G.rens ρ (fl (eI .u64) xs) = fl (eI .u64) xs := Qo ρ _ (Z3 X9 xs)
theorem Ug {ρ : Nat → Nat} (x : Option Int) : (gP (eI .u64) x).ren ρ = gP (eI .u64) x := Ue ρ _ (J5 X9 x)
theorem Gw {k : Nat} (xs : List Int) : G.unders k (fl (eI .u64) xs) = true := Yp _ _ (Z3 X9 xs)
theorem Y6 : ∀ x, G.pures ((eL (eI .u64)) x) = true := fun x => by simp [eI, eB, eS, eL, eP, G.pures, G.pure, Z3, J5, X9]
theorem Ko {O O' : Objs} {n : Nat} (xs : List (List Int)) : K0 O O' n (fl (eL (eI .u64)) xs) (fl (eL (eI .u64)) xs) := Zb0 (Z3 Y6 xs)
theorem Km {O O' : Objs} {n : Nat} (xs : List (List Int)) (b b' : List G) : K0 O O' n (fl (eL (eI .u64)) xs ++ b) (fl (eL (eI .u64)) xs ++ b') = K0 O O' n b b' := Zac b b' _ (Z3 Y6 xs)
theorem Kc (xs : List (List Int)) : (fl (eL (eI .u64)) xs).length = xs.length * 1 := Qm (f := (eL (eI .u64))) (k := 1) (fun _ => rfl) xs
theorem Kj (xs : List (List Int)) : (fl (eL (eI .u64)) xs).all G.one = true := Kr (fun x => by simp [eI, eB, eS, eL, eP, Gi, G.one, Value.oneCell']) xs
theorem Kp {O O' : Objs} {n : Nat} (x : Option (List Int)) : wk O O' n (gP (eL (eI .u64)) x) (gP (eL (eI .u64)) x) = True := Zlz Y6 x
theorem Jx {k : Nat} (x : Option (List Int)) : (gP (eL (eI .u64)) x).under k = true := Gx Y6 k x
theorem Jw {ρ : Nat → Nat} (xs : List (List Int)) : G.rens ρ (fl (eL (eI .u64)) xs) = fl (eL (eI .u64)) xs := Qo ρ _ (Z3 Y6 xs)
theorem Jv {ρ : Nat → Nat} (x : Option (List Int)) : (gP (eL (eI .u64)) x).ren ρ = gP (eL (eI .u64)) x := Ue ρ _ (J5 Y6 x)
theorem Kl {k : Nat} (xs : List (List Int)) : G.unders k (fl (eL (eI .u64)) xs) = true := Yp _ _ (Z3 Y6 xs)
def Zf (x : Zg) : List G := [.sl x.segments.length (fl (eL (eI .u64)) x.segments), .val (.int .i64 x.size), .val (.int .i64 x.left)]
theorem Ya : ∀ x, G.pures (Zf x) = true := fun x => by simp [eI, eB, eS, eL, eP, G.pures, G.pure, Z3, J5, Zf, X9, Y6]
theorem X1 {O O' : Objs} {n : Nat} (xs : List Zg) : K0 O O' n (fl Zf xs) (fl Zf xs) := Zb0 (Z3 Ya xs)
theorem X0 {O O' : Objs} {n : Nat} (xs : List Zg) (b b' : List G) : K0 O O' n (fl Zf xs ++ b) (fl Zf xs ++ b') = K0 O O' n b b' := Zac b b' _ (Z3 Ya xs)
theorem Xx (xs : List Zg) : (fl Zf xs).length = xs.length * 3 := Qm (f := Zf) (k := 3) (fun _ => rfl) xs
theorem Xy (xs : List Zg) : (fl Zf xs).all G.one = true := Kr (fun x => by simp [eI, eB, eS, eL, eP, Gi, G.one, Value.oneCell', Zf]) xs
theorem X2 {O O' : Objs} {n : Nat} (x : Option Zg) : wk O O' n (gP Zf x) (gP Zf x) = True := Zlz Ya x
theorem Xt {k : Nat} (x : Option Zg) : (gP Zf x).under k = true := Gx Ya k x
theorem Xs {ρ : Nat → Nat} (xs : List Zg) : G.rens ρ (fl Zf xs) = fl Zf xs := Qo ρ _ (Z3 Ya xs)
theorem Xr {ρ : Nat → Nat} (x : Option Zg) : (gP Zf x).ren ρ = gP Zf x := Ue ρ _ (J5 Ya x)
theorem Xz {k : Nat} (xs : List Zg) : G.unders k (fl Zf xs) = true := Yp _ _ (Z3 Ya xs)
def V2 (x : Z7) : List G := [.val (.int .i64 x.Kind), .val (.int .i64 x.Off), .val (.int .i64 x.Data), .val (.int .i64 x.Ptrs), .val (.int .i64 x.Code), .val (.int .i64 x.Count), .val (.int .i64 x.Segment), .val (.bool x.Double)]
theorem J4 : ∀ x, G.pures ((eI .i64) x) = true := fun x => by simp [eI, eB, eS, eL, eP, G.pures, G.pure, Z3, J5, X9, Y6, Ya]
theorem Zaa {O O' : Objs} {n : Nat} (xs : List Int) : K0 O O' n (fl (eI .i64) xs) (fl (eI .i64) xs) := Zb0 (Z3 J4 xs)
theorem Gy {O O' : Objs} {n : Nat} (xs : List Int) (b b' : List G) : K0 O O' n (fl (eI .i64) xs ++ b) (fl (eI .i64) xs ++ b') = K0 O O' n b b' := Zac b b' _ (Z3 J4 xs)
theorem Ge (xs : List Int) : (fl (eI .i64) xs).length = xs.length * 1 := Qm (f := (eI .i64)) (k := 1) (fun _ => rfl) xs
theorem Gg (xs : List Int) : (fl (eI .i64) xs).all G.one = true := Kr (fun x => by simp [eI, eB, eS, eL, eP, Gi, G.one, Value.oneCell']) xs
theorem Zad {O O' : Objs} {n : Nat} (x : Option Int) : wk O O' n (gP (eI .i64) x) (gP (eI .i64) x) = True := Zlz J4 x
theorem Uk {k : Nat} (x : Option Int) : (gP (eI .i64) x).under k = true := Gx J4 k x
theorem Uh {ρ : Nat → Nat} (xs : List Int) : G.rens ρ (fl (eI .i64) xs) = fl (eI .i64) xs := Qo ρ _ (Z3 J4 xs)
theorem Uf {ρ : Nat → Nat} (x : Option Int) : (gP (eI .i64) x).ren ρ = gP (eI .i64) x := Ue ρ _ (J5 J4 x)
theorem Gv {k : Nat} (xs : List Int) : G.unders k (fl (eI .i64) xs) = true := Yp _ _ (Z3 J4 xs)
def V1 (x : Yg) : List G := [.val (.int .i64 x.P.Kind), .val (.int .i64 x.P.Off), .val (.int .i64 x.P.Data), .val (.int .i64 x.P.Ptrs), .val (.int .i64 x.P.Code), .val (.int .i64 x.P.Count), .val (.int .i64 x.P.Segment), .val (.bool x.P.Double), .val (.int .i64 x.Segment), .val (.int .i64 x.At)]
def Jr (x : Zc) : List G := [(gP Zf x.a), .val (.int .i64 x.kind), .val (.int .i64 x.segment), .val (.int .i64 x.at_), .val (.int .i64 x.words), .val (.int .i64 x.ptrs), .val (.int .i64 x.count), .val (.int .i64 x.code), .val (.int .i64 x.index)]
def Qc (x : Zh7) : List G := [.val (.int .i64 x.P.Kind), .val (.int .i64 x.P.Off), .val (.int .i64 x.P.Data), .val (.int .i64 x.P.Ptrs), .val (.int .i64 x.P.Code), .val (.int .i64 x.P.Count), .val (.int .i64 x.P.Segment), .val (.bool x.P.Double), .val (.int .i64 x.Segment), .val (.int .i64 x.At)]
def Qd (x : Za6) : List G := [.val (.int .i64 x.Kind), .val (.int .i64 x.S), .val (.int .i64 x.At), .val (.int .i64 x.Data), .val (.int .i64 x.Ptrs), .val (.int .i64 x.Count), .val (.int .u64 x.N)]
def Y3 (x : Zp) : List G := [.val (.int .i64 x.Depth), .val (.int .i64 x.Weight), .val (.int .i64 x.MaxD), .val (.int .i64 x.MaxOut)]
def Zo (x : Zd) : List G := [.val (.int .i64 x.left)]
theorem Yf : ∀ x, G.pures (Zo x) = true := fun x => by simp [eI, eB, eS, eL, eP, G.pures, G.pure, Z3, J5, Zo, X9, Y6, Ya, J4]
theorem Xj {O O' : Objs} {n : Nat} (xs : List Zd) : K0 O O' n (fl Zo xs) (fl Zo xs) := Zb0 (Z3 Yf xs)
theorem Xi {O O' : Objs} {n : Nat} (xs : List Zd) (b b' : List G) : K0 O O' n (fl Zo xs ++ b) (fl Zo xs ++ b') = K0 O O' n b b' := Zac b b' _ (Z3 Yf xs)
theorem Xe (xs : List Zd) : (fl Zo xs).length = xs.length * 1 := Qm (f := Zo) (k := 1) (fun _ => rfl) xs
theorem Xf (xs : List Zd) : (fl Zo xs).all G.one = true := Kr (fun x => by simp [eI, eB, eS, eL, eP, Gi, G.one, Value.oneCell', Zo]) xs
theorem Xk {O O' : Objs} {n : Nat} (x : Option Zd) : wk O O' n (gP Zo x) (gP Zo x) = True := Zlz Yf x
theorem Xa {k : Nat} (x : Option Zd) : (gP Zo x).under k = true := Gx Yf k x
theorem Y8 {ρ : Nat → Nat} (xs : List Zd) : G.rens ρ (fl Zo xs) = fl Zo xs := Qo ρ _ (Z3 Yf xs)
theorem Y7 {ρ : Nat → Nat} (x : Option Zd) : (gP Zo x).ren ρ = gP Zo x := Ue ρ _ (J5 Yf x)
theorem Xg {k : Nat} (xs : List Zd) : G.unders k (fl Zo xs) = true := Yp _ _ (Z3 Yf xs)
mutual
def Qy : Yu → List G
 | ⟨f0, f1, f2⟩ => [.val (.int .i64 f0), .sl f1.length (fl (eI .u64) f1), .sl f2.length (Qz f2)]
def Qz : List Yu → List G
 | [] => []
 | x :: xs => Qy x ++ Qz xs
end
theorem Za9 : ∀ xs, Qz xs = fl Qy xs
 | [] => by simp [Qz, fl]
 | x :: xs => by rw [Qz, Jd, Za9 xs]
def Zy (x : Yu) : List G := [.val (.int .i64 x.Kind), .sl x.Words.length (fl (eI .u64) x.Words), .sl x.Kids.length (fl Qy x.Kids)]
theorem X7 : Qy = Zy := by
 funext x
 obtain ⟨_, _, _⟩ := x
 simp only [Qy, Za9, Zy, List.cons_append, List.nil_append, List.append_nil]
mutual
theorem Zdl : ∀ x, G.pures (Qy x) = true
 | ⟨f0, f1, f2⟩ => by simp [Qy, eP, J5, eI, eB, eS, eL, G.pures, G.pure, Zem, Z3, Zcl f2, X9, Y6, Ya, J4, Yf]
theorem Zcl : ∀ xs, G.pures (Qz xs) = true
 | [] => rfl
 | x :: xs => by simp [Qz, Zem, Zdl x, Zcl xs]
end
theorem Xw : ∀ x, G.pures (Zy x) = true := fun x => by rw [← X7]; exact Zdl x
theorem Q9 {O O' : Objs} {n : Nat} (xs : List Yu) : K0 O O' n (fl Zy xs) (fl Zy xs) := Zb0 (Z3 Xw xs)
theorem Q8 {O O' : Objs} {n : Nat} (xs : List Yu) (b b' : List G) : K0 O O' n (fl Zy xs ++ b) (fl Zy xs ++ b') = K0 O O' n b b' := Zac b b' _ (Z3 Xw xs)
theorem Q3 (xs : List Yu) : (fl Zy xs).length = xs.length * 3 := Qm (f := Zy) (k := 3) (fun _ => rfl) xs
theorem Q5 (xs : List Yu) : (fl Zy xs).all G.one = true := Kr (fun x => by simp [eI, eB, eS, eL, eP, Gi, G.one, Value.oneCell', Zy]) xs
theorem Ja {O O' : Objs} {n : Nat} (x : Option Yu) : wk O O' n (gP Zy x) (gP Zy x) = True := Zlz Xw x
theorem Qx {k : Nat} (x : Option Yu) : (gP Zy x).under k = true := Gx Xw k x
theorem Qv {ρ : Nat → Nat} (xs : List Yu) : G.rens ρ (fl Zy xs) = fl Zy xs := Qo ρ _ (Z3 Xw xs)
theorem Qu {ρ : Nat → Nat} (x : Option Yu) : (gP Zy x).ren ρ = gP Zy x := Ue ρ _ (J5 Xw x)
theorem Q7 {k : Nat} (xs : List Yu) : G.unders k (fl Zy xs) = true := Yp _ _ (Z3 Xw xs)
def Zi (x : Zc) : List G := [(gP Zf x.a), .val (.int .i64 x.kind), .val (.int .i64 x.segment), .val (.int .i64 x.at_), .val (.int .i64 x.words), .val (.int .i64 x.ptrs), .val (.int .i64 x.count), .val (.int .i64 x.code), .val (.int .i64 x.index)]
def Ys (x : Z7) : List G := [.val (.int .i64 x.Kind), .val (.int .i64 x.Off), .val (.int .i64 x.Data), .val (.int .i64 x.Ptrs), .val (.int .i64 x.Code), .val (.int .i64 x.Count), .val (.int .i64 x.Segment), .val (.bool x.Double)]
def Qb (x : Za6) : List G := [.val (.int .i64 x.Kind), .val (.int .i64 x.S), .val (.int .i64 x.At), .val (.int .i64 x.Data), .val (.int .i64 x.Ptrs), .val (.int .i64 x.Count), .val (.int .u64 x.N)]
def K4 (x : Yu) : List G := [.val (.int .i64 x.Kind), .sl x.Words.length (fl (eI .u64) x.Words), .sl x.Kids.length (fl Zy x.Kids)]
def Z6 (x : Zp) : List G := [.val (.int .i64 x.Depth), .val (.int .i64 x.Weight), .val (.int .i64 x.MaxD), .val (.int .i64 x.MaxOut)]
end Go.Proofs.Ytmlhokaflhlhbaa
