/- Part QE of this seat's mirrors: functions of the seat's program, and the plain functions that they are; each theorem bears its own conditions. -/
import Derived.Test.YtmlhokaflhlhbaaTy
import Derived.Test.YtmlhokaflhlhbaaQD
namespace Go.Proofs.Ytmlhokaflhlhbaa
open Go.RowKit
set_option linter.unusedVariables false
set_option linter.unusedSimpArgs false
set_option maxRecDepth 100000
set_option maxHeartbeats 4000000
def Qu (x : Z5) : List G := [.val (.int .i64 x.Depth), .val (.int .i64 x.Weight), .val (.int .i64 x.MaxD), .val (.int .i64 x.MaxOut)]
theorem Qr : ∀ x, G.pures ((eI .u64) x) = true := fun x => by simp [eI, eB, eS, eL, eP, G.pures, G.pure, Yh, Kz]
theorem Zff {O O' : Objs} {n : Nat} (xs : List Int) : Vq O O' n (fl (eI .u64) xs) (fl (eI .u64) xs) := Zbp (Yh Qr xs)
theorem Zfd {O O' : Objs} {n : Nat} (xs : List Int) (b b' : List G) : Vq O O' n (fl (eI .u64) xs ++ b) (fl (eI .u64) xs ++ b') = Vq O O' n b b' := Zas b b' _ (Yh Qr xs)
theorem Zeu (xs : List Int) : (fl (eI .u64) xs).length = xs.length * 1 := Q5 (f := (eI .u64)) (k := 1) (fun _ => rfl) xs
theorem Zez (xs : List Int) : (fl (eI .u64) xs).all G.one = true := Vf (fun x => by simp [eI, eB, eS, eL, eP, Zbx, G.one, Value.oneCell']) xs
theorem Zfh {O O' : Objs} {n : Nat} (x : Option Int) : wk O O' n (gP (eI .u64) x) (gP (eI .u64) x) = True := Zlk Qr x
theorem Zdd {k : Nat} (x : Option Int) : (gP (eI .u64) x).under k = true := Zaq Qr k x
theorem Zc8 {ρ : Nat → Nat} (xs : List Int) : G.rens ρ (fl (eI .u64) xs) = fl (eI .u64) xs := Q6 ρ _ (Yh Qr xs)
theorem Zc6 {ρ : Nat → Nat} (x : Option Int) : (gP (eI .u64) x).ren ρ = gP (eI .u64) x := Gd ρ _ (Kz Qr x)
theorem Zfa {k : Nat} (xs : List Int) : G.unders k (fl (eI .u64) xs) = true := Xf _ _ (Yh Qr xs)
theorem X1 : ∀ x, G.pures ((eL (eI .u64)) x) = true := fun x => by simp [eI, eB, eS, eL, eP, G.pures, G.pure, Yh, Kz, Qr]
theorem Za8 {O O' : Objs} {n : Nat} (xs : List (List Int)) : Vq O O' n (fl (eL (eI .u64)) xs) (fl (eL (eI .u64)) xs) := Zbp (Yh X1 xs)
theorem Za7 {O O' : Objs} {n : Nat} (xs : List (List Int)) (b b' : List G) : Vq O O' n (fl (eL (eI .u64)) xs ++ b) (fl (eL (eI .u64)) xs ++ b') = Vq O O' n b b' := Zas b b' _ (Yh X1 xs)
theorem Za0 (xs : List (List Int)) : (fl (eL (eI .u64)) xs).length = xs.length * 1 := Q5 (f := (eL (eI .u64))) (k := 1) (fun _ => rfl) xs
theorem Za3 (xs : List (List Int)) : (fl (eL (eI .u64)) xs).all G.one = true := Vf (fun x => by simp [eI, eB, eS, eL, eP, Zbx, G.one, Value.oneCell']) xs
theorem Za9 {O O' : Objs} {n : Nat} (x : Option (List Int)) : wk O O' n (gP (eL (eI .u64)) x) (gP (eL (eI .u64)) x) = True := Zlk X1 x
theorem Zar {k : Nat} (x : Option (List Int)) : (gP (eL (eI .u64)) x).under k = true := Zaq X1 k x
theorem Zak {ρ : Nat → Nat} (xs : List (List Int)) : G.rens ρ (fl (eL (eI .u64)) xs) = fl (eL (eI .u64)) xs := Q6 ρ _ (Yh X1 xs)
theorem Zaj {ρ : Nat → Nat} (x : Option (List Int)) : (gP (eL (eI .u64)) x).ren ρ = gP (eL (eI .u64)) x := Gd ρ _ (Kz X1 x)
theorem Za6 {k : Nat} (xs : List (List Int)) : G.unders k (fl (eL (eI .u64)) xs) = true := Xf _ _ (Yh X1 xs)
def Zcl (x : Z4) : List G := [.val (.int .i64 x.Kind), .val (.int .i64 x.Off), .val (.int .i64 x.Data), .val (.int .i64 x.Ptrs), .val (.int .i64 x.Code), .val (.int .i64 x.Count), .val (.int .i64 x.Segment), .val (.bool x.Double)]
def Vg (x : Z0) : List G := [.val (.int .i64 x.P.Kind), .val (.int .i64 x.P.Off), .val (.int .i64 x.P.Data), .val (.int .i64 x.P.Ptrs), .val (.int .i64 x.P.Code), .val (.int .i64 x.P.Count), .val (.int .i64 x.P.Segment), .val (.bool x.P.Double), .val (.int .i64 x.Segment), .val (.int .i64 x.At)]
def Vh (x : Zn) : List G := [.val (.int .i64 x.Kind), .val (.int .i64 x.S), .val (.int .i64 x.At), .val (.int .i64 x.Data), .val (.int .i64 x.Ptrs), .val (.int .i64 x.Count), .val (.int .u64 x.N)]
mutual
def Jg : S_api_Tree → List G
 | ⟨f0, f1, f2⟩ => [.val (.int .i64 f0), .sl f1.length (fl (eI .u64) f1), .sl f2.length (Jh f2)]
def Jh : List S_api_Tree → List G
 | [] => []
 | x :: xs => Jg x ++ Jh xs
end
theorem Zbd : ∀ xs, Jh xs = fl Jg xs
 | [] => by simp [Jh, fl]
 | x :: xs => by rw [Jh, Kv, Zbd xs]
def Zw (x : S_api_Tree) : List G := [.val (.int .i64 x.Kind), .sl x.Words.length (fl (eI .u64) x.Words), .sl x.Kids.length (fl Jg x.Kids)]
theorem X8 : Jg = Zw := by
 funext x
 obtain ⟨_, _, _⟩ := x
 simp only [Jg, Zbd, Zw, List.cons_append, List.nil_append, List.append_nil]
mutual
theorem Zc4 : ∀ x, G.pures (Jg x) = true
 | ⟨f0, f1, f2⟩ => by simp [Jg, eP, Kz, eI, eB, eS, eL, G.pures, G.pure, Zdr, Yh, Zb6 f2, Qr, X1]
theorem Zb6 : ∀ xs, G.pures (Jh xs) = true
 | [] => rfl
 | x :: xs => by simp [Jh, Zdr, Zc4 x, Zb6 xs]
end
theorem Xd : ∀ x, G.pures (Zw x) = true := fun x => by rw [← X8]; exact Zc4 x
theorem U0 {O O' : Objs} {n : Nat} (xs : List S_api_Tree) : Vq O O' n (fl Zw xs) (fl Zw xs) := Zbp (Yh Xd xs)
theorem Uz {O O' : Objs} {n : Nat} (xs : List S_api_Tree) (b b' : List G) : Vq O O' n (fl Zw xs ++ b) (fl Zw xs ++ b') = Vq O O' n b b' := Zas b b' _ (Yh Xd xs)
theorem Up (xs : List S_api_Tree) : (fl Zw xs).length = xs.length * 3 := Q5 (f := Zw) (k := 3) (fun _ => rfl) xs
theorem Ut (xs : List S_api_Tree) : (fl Zw xs).all G.one = true := Vf (fun x => by simp [eI, eB, eS, eL, eP, Zbx, G.one, Value.oneCell', Zw]) xs
theorem U1 {O O' : Objs} {n : Nat} (x : Option S_api_Tree) : wk O O' n (gP Zw x) (gP Zw x) = True := Zlk Xd x
theorem Ug {k : Nat} (x : Option S_api_Tree) : (gP Zw x).under k = true := Zaq Xd k x
theorem Ua {ρ : Nat → Nat} (xs : List S_api_Tree) : G.rens ρ (fl Zw xs) = fl Zw xs := Q6 ρ _ (Yh Xd xs)
theorem V9 {ρ : Nat → Nat} (x : Option S_api_Tree) : (gP Zw x).ren ρ = gP Zw x := Gd ρ _ (Kz Xd x)
theorem Uy {k : Nat} (xs : List S_api_Tree) : G.unders k (fl Zw xs) = true := Xf _ _ (Yh Xd xs)
def Zm (x : Zk) : List G := [.sl x.segments.length (fl (eL (eI .u64)) x.segments), .val (.int .i64 x.size), .val (.int .i64 x.left)]
theorem Yy : ∀ x, G.pures (Zm x) = true := fun x => by simp [eI, eB, eS, eL, eP, G.pures, G.pure, Yh, Kz, Zm, Qr, X1, Xd, X8]
theorem K6 {O O' : Objs} {n : Nat} (xs : List Zk) : Vq O O' n (fl Zm xs) (fl Zm xs) := Zbp (Yh Yy xs)
theorem K5 {O O' : Objs} {n : Nat} (xs : List Zk) (b b' : List G) : Vq O O' n (fl Zm xs ++ b) (fl Zm xs ++ b') = Vq O O' n b b' := Zas b b' _ (Yh Yy xs)
theorem K1 (xs : List Zk) : (fl Zm xs).length = xs.length * 3 := Q5 (f := Zm) (k := 3) (fun _ => rfl) xs
theorem K3 (xs : List Zk) : (fl Zm xs).all G.one = true := Vf (fun x => by simp [eI, eB, eS, eL, eP, Zbx, G.one, Value.oneCell', Zm]) xs
theorem K7 {O O' : Objs} {n : Nat} (x : Option Zk) : wk O O' n (gP Zm x) (gP Zm x) = True := Zlk Yy x
theorem Ks {k : Nat} (x : Option Zk) : (gP Zm x).under k = true := Zaq Yy k x
theorem Kr {ρ : Nat → Nat} (xs : List Zk) : G.rens ρ (fl Zm xs) = fl Zm xs := Q6 ρ _ (Yh Yy xs)
theorem Kq {ρ : Nat → Nat} (x : Option Zk) : (gP Zm x).ren ρ = gP Zm x := Gd ρ _ (Kz Yy x)
theorem K4 {k : Nat} (xs : List Zk) : G.unders k (fl Zm xs) = true := Xf _ _ (Yh Yy xs)
theorem Vv : ∀ x, G.pures ((eI .i64) x) = true := fun x => by simp [eI, eB, eS, eL, eP, G.pures, G.pure, Yh, Kz, Qr, X1, Xd, Yy, X8]
theorem Zfe {O O' : Objs} {n : Nat} (xs : List Int) : Vq O O' n (fl (eI .i64) xs) (fl (eI .i64) xs) := Zbp (Yh Vv xs)
theorem Zfc {O O' : Objs} {n : Nat} (xs : List Int) (b b' : List G) : Vq O O' n (fl (eI .i64) xs ++ b) (fl (eI .i64) xs ++ b') = Vq O O' n b b' := Zas b b' _ (Yh Vv xs)
theorem Zet (xs : List Int) : (fl (eI .i64) xs).length = xs.length * 1 := Q5 (f := (eI .i64)) (k := 1) (fun _ => rfl) xs
theorem Zey (xs : List Int) : (fl (eI .i64) xs).all G.one = true := Vf (fun x => by simp [eI, eB, eS, eL, eP, Zbx, G.one, Value.oneCell']) xs
theorem Zfg {O O' : Objs} {n : Nat} (x : Option Int) : wk O O' n (gP (eI .i64) x) (gP (eI .i64) x) = True := Zlk Vv x
theorem Zdc {k : Nat} (x : Option Int) : (gP (eI .i64) x).under k = true := Zaq Vv k x
theorem Zc7 {ρ : Nat → Nat} (xs : List Int) : G.rens ρ (fl (eI .i64) xs) = fl (eI .i64) xs := Q6 ρ _ (Yh Vv xs)
theorem Zc5 {ρ : Nat → Nat} (x : Option Int) : (gP (eI .i64) x).ren ρ = gP (eI .i64) x := Gd ρ _ (Kz Vv x)
theorem Ze9 {k : Nat} (xs : List Int) : G.unders k (fl (eI .i64) xs) = true := Xf _ _ (Yh Vv xs)
def Zck (x : Yo) : List G := [.val (.int .i64 x.P.Kind), .val (.int .i64 x.P.Off), .val (.int .i64 x.P.Data), .val (.int .i64 x.P.Ptrs), .val (.int .i64 x.P.Code), .val (.int .i64 x.P.Count), .val (.int .i64 x.P.Segment), .val (.bool x.P.Double), .val (.int .i64 x.Segment), .val (.int .i64 x.At)]
def Zaa (x : Zd) : List G := [(gP Zm x.a), .val (.int .i64 x.kind), .val (.int .i64 x.segment), .val (.int .i64 x.at_), .val (.int .i64 x.words), .val (.int .i64 x.ptrs), .val (.int .i64 x.count), .val (.int .i64 x.code), .val (.int .i64 x.index)]
def Zz (x : Zh) : List G := [.val (.int .i64 x.left)]
theorem Y5 : ∀ x, G.pures (Zz x) = true := fun x => by simp [eI, eB, eS, eL, eP, G.pures, G.pure, Yh, Kz, Zz, Qr, X1, Xd, Yy, Vv, X8]
theorem J7 {O O' : Objs} {n : Nat} (xs : List Zh) : Vq O O' n (fl Zz xs) (fl Zz xs) := Zbp (Yh Y5 xs)
theorem J6 {O O' : Objs} {n : Nat} (xs : List Zh) (b b' : List G) : Vq O O' n (fl Zz xs ++ b) (fl Zz xs ++ b') = Vq O O' n b b' := Zas b b' _ (Yh Y5 xs)
theorem Jy (xs : List Zh) : (fl Zz xs).length = xs.length * 1 := Q5 (f := Zz) (k := 1) (fun _ => rfl) xs
theorem J4 (xs : List Zh) : (fl Zz xs).all G.one = true := Vf (fun x => by simp [eI, eB, eS, eL, eP, Zbx, G.one, Value.oneCell', Zz]) xs
theorem J8 {O O' : Objs} {n : Nat} (x : Option Zh) : wk O O' n (gP Zz x) (gP Zz x) = True := Zlk Y5 x
theorem Ju {k : Nat} (x : Option Zh) : (gP Zz x).under k = true := Zaq Y5 k x
theorem Jr {ρ : Nat → Nat} (xs : List Zh) : G.rens ρ (fl Zz xs) = fl Zz xs := Q6 ρ _ (Yh Y5 xs)
theorem Jq {ρ : Nat → Nat} (x : Option Zh) : (gP Zz x).ren ρ = gP Zz x := Gd ρ _ (Kz Y5 x)
theorem J5 {k : Nat} (xs : List Zh) : G.unders k (fl Zz xs) = true := Xf _ _ (Yh Y5 xs)
def Zj (x : Zd) : List G := [(gP Zm x.a), .val (.int .i64 x.kind), .val (.int .i64 x.segment), .val (.int .i64 x.at_), .val (.int .i64 x.words), .val (.int .i64 x.ptrs), .val (.int .i64 x.count), .val (.int .i64 x.code), .val (.int .i64 x.index)]
def Yb (x : Z4) : List G := [.val (.int .i64 x.Kind), .val (.int .i64 x.Off), .val (.int .i64 x.Data), .val (.int .i64 x.Ptrs), .val (.int .i64 x.Code), .val (.int .i64 x.Count), .val (.int .i64 x.Segment), .val (.bool x.Double)]
def Zo (x : Zn) : List G := [.val (.int .i64 x.Kind), .val (.int .i64 x.S), .val (.int .i64 x.At), .val (.int .i64 x.Data), .val (.int .i64 x.Ptrs), .val (.int .i64 x.Count), .val (.int .u64 x.N)]
def Y6 (x : S_api_Tree) : List G := [.val (.int .i64 x.Kind), .sl x.Words.length (fl (eI .u64) x.Words), .sl x.Kids.length (fl Zw x.Kids)]
def Yr (x : Z5) : List G := [.val (.int .i64 x.Depth), .val (.int .i64 x.Weight), .val (.int .i64 x.MaxD), .val (.int .i64 x.MaxOut)]
end Go.Proofs.Ytmlhokaflhlhbaa
