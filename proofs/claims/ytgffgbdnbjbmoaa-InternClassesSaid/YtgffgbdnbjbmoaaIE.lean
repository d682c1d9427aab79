/- Part IE of this seat's mirrors: functions of the seat's program, and the plain functions that they are; each theorem bears its own conditions. -/
import Derived.Test.YtgffgbdnbjbmoaaTy
import Derived.Test.YtgffgbdnbjbmoaaID
namespace Go.Proofs.Ytgffgbdnbjbmoaa
open Go.RowKit
set_option linter.unusedVariables false
set_option linter.unusedSimpArgs false
set_option maxRecDepth 100000
set_option maxHeartbeats 4000000
theorem Q5 : ∀ x, G.pures ((eI .u64) x) = true := fun x => by simp [eI, eB, eS, eL, eP, G.pures, G.pure, Z7, Ju]
theorem Znf {O O' : Objs} {n : Nat} (xs : List Int) : V8 O O' n (fl (eI .u64) xs) (fl (eI .u64) xs) := U7 (Z7 Q5 xs)
theorem Znd {O O' : Objs} {n : Nat} (xs : List Int) (b b' : List G) : V8 O O' n (fl (eI .u64) xs ++ b) (fl (eI .u64) xs ++ b') = V8 O O' n b b' := Um b b' _ (Z7 Q5 xs)
theorem Zme (xs : List Int) : (fl (eI .u64) xs).length = xs.length * 1 := Je (f := (eI .u64)) (k := 1) (fun _ => rfl) xs
theorem Zmn (xs : List Int) : (fl (eI .u64) xs).all G.one = true := Kj (fun x => by simp [eI, eB, eS, eL, eP, Zbb, G.one, Value.oneCell']) xs
theorem Znh {O O' : Objs} {n : Nat} (x : Option Int) : wk O O' n (gP (eI .u64) x) (gP (eI .u64) x) = True := Zht Q5 x
theorem Zk0 {k : Nat} (x : Option Int) : (gP (eI .u64) x).under k = true := Uk Q5 k x
theorem Zkt {ρ : Nat → Nat} (xs : List Int) : G.rens ρ (fl (eI .u64) xs) = fl (eI .u64) xs := Jl ρ _ (Z7 Q5 xs)
theorem Zkr {ρ : Nat → Nat} (x : Option Int) : (gP (eI .u64) x).ren ρ = gP (eI .u64) x := V5 ρ _ (Ju Q5 x)
theorem Zm8 {k : Nat} (xs : List Int) : G.unders k (fl (eI .u64) xs) = true := Y6 _ _ (Z7 Q5 xs)
theorem Xn : ∀ x, G.pures ((eL (eI .u64)) x) = true := fun x => by simp [eI, eB, eS, eL, eP, G.pures, G.pure, Z7, Ju, Q5]
theorem Zhv {O O' : Objs} {n : Nat} (xs : List (List Int)) : V8 O O' n (fl (eL (eI .u64)) xs) (fl (eL (eI .u64)) xs) := U7 (Z7 Xn xs)
theorem Zhu {O O' : Objs} {n : Nat} (xs : List (List Int)) (b b' : List G) : V8 O O' n (fl (eL (eI .u64)) xs ++ b) (fl (eL (eI .u64)) xs ++ b') = V8 O O' n b b' := Um b b' _ (Z7 Xn xs)
theorem Zhk (xs : List (List Int)) : (fl (eL (eI .u64)) xs).length = xs.length * 1 := Je (f := (eL (eI .u64))) (k := 1) (fun _ => rfl) xs
theorem Zhr (xs : List (List Int)) : (fl (eL (eI .u64)) xs).all G.one = true := Kj (fun x => by simp [eI, eB, eS, eL, eP, Zbb, G.one, Value.oneCell']) xs
theorem Zhw {O O' : Objs} {n : Nat} (x : Option (List Int)) : wk O O' n (gP (eL (eI .u64)) x) (gP (eL (eI .u64)) x) = True := Zht Xn x
theorem Zgp {k : Nat} (x : Option (List Int)) : (gP (eL (eI .u64)) x).under k = true := Uk Xn k x
theorem Zgm {ρ : Nat → Nat} (xs : List (List Int)) : G.rens ρ (fl (eL (eI .u64)) xs) = fl (eL (eI .u64)) xs := Jl ρ _ (Z7 Xn xs)
theorem Zgl {ρ : Nat → Nat} (x : Option (List Int)) : (gP (eL (eI .u64)) x).ren ρ = gP (eL (eI .u64)) x := V5 ρ _ (Ju Xn x)
theorem Zhs {k : Nat} (xs : List (List Int)) : G.unders k (fl (eL (eI .u64)) xs) = true := Y6 _ _ (Z7 Xn xs)
def Zi (x : Zf) : List G := [.sl x.segments.length (fl (eL (eI .u64)) x.segments), .val (.int .i64 x.size), .val (.int .i64 x.left)]
theorem Yi : ∀ x, G.pures (Zi x) = true := fun x => by simp [eI, eB, eS, eL, eP, G.pures, G.pure, Z7, Ju, Zi, Q5, Xn]
theorem Zcl {O O' : Objs} {n : Nat} (xs : List Zf) : V8 O O' n (fl Zi xs) (fl Zi xs) := U7 (Z7 Yi xs)
theorem Zck {O O' : Objs} {n : Nat} (xs : List Zf) (b b' : List G) : V8 O O' n (fl Zi xs ++ b) (fl Zi xs ++ b') = V8 O O' n b b' := Um b b' _ (Z7 Yi xs)
theorem Zcd (xs : List Zf) : (fl Zi xs).length = xs.length * 3 := Je (f := Zi) (k := 3) (fun _ => rfl) xs
theorem Zci (xs : List Zf) : (fl Zi xs).all G.one = true := Kj (fun x => by simp [eI, eB, eS, eL, eP, Zbb, G.one, Value.oneCell', Zi]) xs
theorem Zcm {O O' : Objs} {n : Nat} (x : Option Zf) : wk O O' n (gP Zi x) (gP Zi x) = True := Zht Yi x
theorem Zb2 {k : Nat} (x : Option Zf) : (gP Zi x).under k = true := Uk Yi k x
theorem Zbx {ρ : Nat → Nat} (xs : List Zf) : G.rens ρ (fl Zi xs) = fl Zi xs := Jl ρ _ (Z7 Yi xs)
theorem Zbw {ρ : Nat → Nat} (x : Option Zf) : (gP Zi x).ren ρ = gP Zi x := V5 ρ _ (Ju Yi x)
theorem Zcj {k : Nat} (xs : List Zf) : G.unders k (fl Zi xs) = true := Y6 _ _ (Z7 Yi xs)
def Zkc (x : Z6) : List G := [.val (.int .i64 x.Kind), .val (.int .i64 x.Off), .val (.int .i64 x.Data), .val (.int .i64 x.Ptrs), .val (.int .i64 x.Code), .val (.int .i64 x.Count), .val (.int .i64 x.Segment), .val (.bool x.Double)]
theorem Kg : ∀ x, G.pures ((eI .i64) x) = true := fun x => by simp [eI, eB, eS, eL, eP, G.pures, G.pure, Z7, Ju, Q5, Xn, Yi]
theorem Zne {O O' : Objs} {n : Nat} (xs : List Int) : V8 O O' n (fl (eI .i64) xs) (fl (eI .i64) xs) := U7 (Z7 Kg xs)
theorem Znc {O O' : Objs} {n : Nat} (xs : List Int) (b b' : List G) : V8 O O' n (fl (eI .i64) xs ++ b) (fl (eI .i64) xs ++ b') = V8 O O' n b b' := Um b b' _ (Z7 Kg xs)
theorem Zmd (xs : List Int) : (fl (eI .i64) xs).length = xs.length * 1 := Je (f := (eI .i64)) (k := 1) (fun _ => rfl) xs
theorem Zmm (xs : List Int) : (fl (eI .i64) xs).all G.one = true := Kj (fun x => by simp [eI, eB, eS, eL, eP, Zbb, G.one, Value.oneCell']) xs
theorem Zng {O O' : Objs} {n : Nat} (x : Option Int) : wk O O' n (gP (eI .i64) x) (gP (eI .i64) x) = True := Zht Kg x
theorem Zkz {k : Nat} (x : Option Int) : (gP (eI .i64) x).under k = true := Uk Kg k x
theorem Zks {ρ : Nat → Nat} (xs : List Int) : G.rens ρ (fl (eI .i64) xs) = fl (eI .i64) xs := Jl ρ _ (Z7 Kg xs)
theorem Zkq {ρ : Nat → Nat} (x : Option Int) : (gP (eI .i64) x).ren ρ = gP (eI .i64) x := V5 ρ _ (Ju Kg x)
theorem Zm7 {k : Nat} (xs : List Int) : G.unders k (fl (eI .i64) xs) = true := Y6 _ _ (Z7 Kg xs)
def Zkb (x : Xa) : List G := [.val (.int .i64 x.P.Kind), .val (.int .i64 x.P.Off), .val (.int .i64 x.P.Data), .val (.int .i64 x.P.Ptrs), .val (.int .i64 x.P.Code), .val (.int .i64 x.P.Count), .val (.int .i64 x.P.Segment), .val (.bool x.P.Double), .val (.int .i64 x.Segment), .val (.int .i64 x.At)]
def Zfz (x : Za) : List G := [(gP Zi x.a), .val (.int .i64 x.kind), .val (.int .i64 x.segment), .val (.int .i64 x.at_), .val (.int .i64 x.words), .val (.int .i64 x.ptrs), .val (.int .i64 x.count), .val (.int .i64 x.code), .val (.int .i64 x.index)]
def Z9 (x : Zo) : List G := [.val (.int .u64 x.sum), .val (.int .i64 x.left)]
theorem Yp : ∀ x, G.pures (Z9 x) = true := fun x => by simp [eI, eB, eS, eL, eP, G.pures, G.pure, Z7, Ju, Z9, Q5, Xn, Yi, Kg]
theorem Zb5 {O O' : Objs} {n : Nat} (xs : List Zo) : V8 O O' n (fl Z9 xs) (fl Z9 xs) := U7 (Z7 Yp xs)
theorem Zb3 {O O' : Objs} {n : Nat} (xs : List Zo) (b b' : List G) : V8 O O' n (fl Z9 xs ++ b) (fl Z9 xs ++ b') = V8 O O' n b b' := Um b b' _ (Z7 Yp xs)
theorem Zbh (xs : List Zo) : (fl Z9 xs).length = xs.length * 2 := Je (f := Z9) (k := 2) (fun _ => rfl) xs
theorem Zbu (xs : List Zo) : (fl Z9 xs).all G.one = true := Kj (fun x => by simp [eI, eB, eS, eL, eP, Zbb, G.one, Value.oneCell', Z9]) xs
theorem Zb7 {O O' : Objs} {n : Nat} (x : Option Zo) : wk O O' n (gP Z9 x) (gP Z9 x) = True := Zht Yp x
theorem Za0 {k : Nat} (x : Option Zo) : (gP Z9 x).under k = true := Uk Yp k x
theorem Zax {ρ : Nat → Nat} (xs : List Zo) : G.rens ρ (fl Z9 xs) = fl Z9 xs := Jl ρ _ (Z7 Yp xs)
theorem Zav {ρ : Nat → Nat} (x : Option Zo) : (gP Z9 x).ren ρ = gP Z9 x := V5 ρ _ (Ju Yp x)
theorem Zb0 {k : Nat} (xs : List Zo) : G.unders k (fl Z9 xs) = true := Y6 _ _ (Z7 Yp xs)
def Zb (x : Zg) : List G := [.val (.int .u64 x.hash), (gP Zi x.r.a), .val (.int .i64 x.r.kind), .val (.int .i64 x.r.segment), .val (.int .i64 x.r.at_), .val (.int .i64 x.r.words), .val (.int .i64 x.r.ptrs), .val (.int .i64 x.r.count), .val (.int .i64 x.r.code), .val (.int .i64 x.r.index)]
def Zv (x : Zl) : List G := [.sl x.classes.length (fl Zb x.classes), .sl x.places.length (fl (eI .i64) x.places)]
theorem Yr : ∀ x, G.pures (Zb x) = true := fun x => by simp [eI, eB, eS, eL, eP, G.pures, G.pure, Z7, Ju, Zb, Q5, Xn, Yi, Kg, Yp]
theorem Za3 {O O' : Objs} {n : Nat} (xs : List Zg) : V8 O O' n (fl Zb xs) (fl Zb xs) := U7 (Z7 Yr xs)
theorem Za2 {O O' : Objs} {n : Nat} (xs : List Zg) (b b' : List G) : V8 O O' n (fl Zb xs ++ b) (fl Zb xs ++ b') = V8 O O' n b b' := Um b b' _ (Z7 Yr xs)
theorem Zaq (xs : List Zg) : (fl Zb xs).length = xs.length * 10 := Je (f := Zb) (k := 10) (fun _ => rfl) xs
theorem Zau (xs : List Zg) : (fl Zb xs).all G.one = true := Kj (fun x => by first | (simp [eI, eB, eS, eL, eP, Zbb, G.one, Value.oneCell', Zb]; done) | (simp only [List.all_cons, List.all_nil, Zbb, Bool.true_and, Bool.and_true, Zb] <;> rfl)) xs
theorem Za4 {O O' : Objs} {n : Nat} (x : Option Zg) : wk O O' n (gP Zb x) (gP Zb x) = True := Zht Yr x
theorem Zal {k : Nat} (x : Option Zg) : (gP Zb x).under k = true := Uk Yr k x
theorem Zad {ρ : Nat → Nat} (xs : List Zg) : G.rens ρ (fl Zb xs) = fl Zb xs := Jl ρ _ (Z7 Yr xs)
theorem Zac {ρ : Nat → Nat} (x : Option Zg) : (gP Zb x).ren ρ = gP Zb x := V5 ρ _ (Ju Yr x)
theorem Zaz {k : Nat} (xs : List Zg) : G.unders k (fl Zb xs) = true := Y6 _ _ (Z7 Yr xs)
theorem Y2 : ∀ x, G.pures (Zv x) = true := fun x => by simp [eI, eB, eS, eL, eP, G.pures, G.pure, Z7, Ju, Zv, Q5, Xn, Yi, Kg, Yp, Yr]
theorem Zb6 {O O' : Objs} {n : Nat} (xs : List Zl) : V8 O O' n (fl Zv xs) (fl Zv xs) := U7 (Z7 Y2 xs)
theorem Zb4 {O O' : Objs} {n : Nat} (xs : List Zl) (b b' : List G) : V8 O O' n (fl Zv xs ++ b) (fl Zv xs ++ b') = V8 O O' n b b' := Um b b' _ (Z7 Y2 xs)
theorem Zbi (xs : List Zl) : (fl Zv xs).length = xs.length * 2 := Je (f := Zv) (k := 2) (fun _ => rfl) xs
theorem Zbv (xs : List Zl) : (fl Zv xs).all G.one = true := Kj (fun x => by simp [eI, eB, eS, eL, eP, Zbb, G.one, Value.oneCell', Zv]) xs
theorem Zb8 {O O' : Objs} {n : Nat} (x : Option Zl) : wk O O' n (gP Zv x) (gP Zv x) = True := Zht Y2 x
theorem Za1 {k : Nat} (x : Option Zl) : (gP Zv x).under k = true := Uk Y2 k x
theorem Zay {ρ : Nat → Nat} (xs : List Zl) : G.rens ρ (fl Zv xs) = fl Zv xs := Jl ρ _ (Z7 Y2 xs)
theorem Zaw {ρ : Nat → Nat} (x : Option Zl) : (gP Zv x).ren ρ = gP Zv x := V5 ρ _ (Ju Y2 x)
theorem Zb1 {k : Nat} (xs : List Zl) : G.unders k (fl Zv xs) = true := Y6 _ _ (Z7 Y2 xs)
def Z4 (x : Zh) : List G := [.val (.int .i64 x.left)]
theorem Y0 : ∀ x, G.pures (Z4 x) = true := fun x => by simp [eI, eB, eS, eL, eP, G.pures, G.pure, Z7, Ju, Z4, Q5, Xn, Yi, Kg, Yp, Yr, Y2]
theorem Zan {O O' : Objs} {n : Nat} (xs : List Zh) : V8 O O' n (fl Z4 xs) (fl Z4 xs) := U7 (Z7 Y0 xs)
theorem Zam {O O' : Objs} {n : Nat} (xs : List Zh) (b b' : List G) : V8 O O' n (fl Z4 xs ++ b) (fl Z4 xs ++ b') = V8 O O' n b b' := Um b b' _ (Z7 Y0 xs)
theorem Gy (xs : List Zh) : (fl Z4 xs).length = xs.length * 1 := Je (f := Z4) (k := 1) (fun _ => rfl) xs
theorem Zab (xs : List Zh) : (fl Z4 xs).all G.one = true := Kj (fun x => by simp [eI, eB, eS, eL, eP, Zbb, G.one, Value.oneCell', Z4]) xs
theorem Zao {O O' : Objs} {n : Nat} (x : Option Zh) : wk O O' n (gP Z4 x) (gP Z4 x) = True := Zht Y0 x
theorem Gm {k : Nat} (x : Option Zh) : (gP Z4 x).under k = true := Uk Y0 k x
theorem Gl {ρ : Nat → Nat} (xs : List Zh) : G.rens ρ (fl Z4 xs) = fl Z4 xs := Jl ρ _ (Z7 Y0 xs)
theorem Gk {ρ : Nat → Nat} (x : Option Zh) : (gP Z4 x).ren ρ = gP Z4 x := V5 ρ _ (Ju Y0 x)
theorem Zak {k : Nat} (xs : List Zh) : G.unders k (fl Z4 xs) = true := Y6 _ _ (Z7 Y0 xs)
mutual
def K9 : Zd → List G
 | ⟨f0, f1, f2⟩ => [.val (.int .i64 f0), .sl f1.length (fl (eI .u64) f1), .sl f2.length (Va f2)]
def Va : List Zd → List G
 | [] => []
 | x :: xs => K9 x ++ Va xs
end
theorem Zee : ∀ xs, Va xs = fl K9 xs
 | [] => by simp [Va, fl]
 | x :: xs => by rw [Va, U9, Zee xs]
def Zk (x : Zd) : List G := [.val (.int .i64 x.Kind), .sl x.Words.length (fl (eI .u64) x.Words), .sl x.Kids.length (fl K9 x.Kids)]
theorem Un : K9 = Zk := by
 funext x
 obtain ⟨_, _, _⟩ := x
 simp only [K9, Zee, Zk, List.cons_append, List.nil_append, List.append_nil]
mutual
theorem Zgk : ∀ x, G.pures (K9 x) = true
 | ⟨f0, f1, f2⟩ => by simp [K9, eP, Ju, eI, eB, eS, eL, G.pures, G.pure, Zgz, Z7, Zfo f2, Q5, Xn, Yi, Kg, Yp, Yr, Y2, Y0]
theorem Zfo : ∀ xs, G.pures (Va xs) = true
 | [] => rfl
 | x :: xs => by simp [Va, Zgz, Zgk x, Zfo xs]
end
theorem Jm : ∀ x, G.pures (Zk x) = true := fun x => by rw [← Un]; exact Zgk x
theorem Zez {O O' : Objs} {n : Nat} (xs : List Zd) : V8 O O' n (fl Zk xs) (fl Zk xs) := U7 (Z7 Jm xs)
theorem Zex {O O' : Objs} {n : Nat} (xs : List Zd) (b b' : List G) : V8 O O' n (fl Zk xs ++ b) (fl Zk xs ++ b') = V8 O O' n b b' := Um b b' _ (Z7 Jm xs)
theorem Zeh (xs : List Zd) : (fl Zk xs).length = xs.length * 3 := Je (f := Zk) (k := 3) (fun _ => rfl) xs
theorem Zen (xs : List Zd) : (fl Zk xs).all G.one = true := Kj (fun x => by simp [eI, eB, eS, eL, eP, Zbb, G.one, Value.oneCell', Zk]) xs
theorem Ze1 {O O' : Objs} {n : Nat} (x : Option Zd) : wk O O' n (gP Zk x) (gP Zk x) = True := Zht Jm x
theorem Zd2 {k : Nat} (x : Option Zd) : (gP Zk x).under k = true := Uk Jm k x
theorem Zdy {ρ : Nat → Nat} (xs : List Zd) : G.rens ρ (fl Zk xs) = fl Zk xs := Jl ρ _ (Z7 Jm xs)
theorem Zdw {ρ : Nat → Nat} (x : Option Zd) : (gP Zk x).ren ρ = gP Zk x := V5 ρ _ (Ju Jm x)
theorem Zev {k : Nat} (xs : List Zd) : G.unders k (fl Zk xs) = true := Y6 _ _ (Z7 Jm xs)
def Vi (x : Zw) : List G := [.val (.int .i64 x.Depth), .val (.int .i64 x.Weight), .val (.int .i64 x.MaxD), .val (.int .i64 x.MaxOut)]
def Zc2 (x : Z3) : List G := [.val (.int .i64 x.P.Kind), .val (.int .i64 x.P.Off), .val (.int .i64 x.P.Data), .val (.int .i64 x.P.Ptrs), .val (.int .i64 x.P.Code), .val (.int .i64 x.P.Count), .val (.int .i64 x.P.Segment), .val (.bool x.P.Double), .val (.int .i64 x.Segment), .val (.int .i64 x.At)]
def Zc3 (x : Zm) : List G := [.val (.int .i64 x.Kind), .val (.int .i64 x.S), .val (.int .i64 x.At), .val (.int .i64 x.Data), .val (.int .i64 x.Ptrs), .val (.int .i64 x.Count), .val (.int .u64 x.N)]
theorem J9 : ∀ x, G.pures ((eL (eL (eI .u64))) x) = true := fun x => by simp [eI, eB, eS, eL, eP, G.pures, G.pure, Z7, Ju, Q5, Xn, Yi, Kg, Yp, Yr, Y2, Y0, Jm, Un]
theorem Zey {O O' : Objs} {n : Nat} (xs : List (List (List Int))) : V8 O O' n (fl (eL (eL (eI .u64))) xs) (fl (eL (eL (eI .u64))) xs) := U7 (Z7 J9 xs)
theorem Zew {O O' : Objs} {n : Nat} (xs : List (List (List Int))) (b b' : List G) : V8 O O' n (fl (eL (eL (eI .u64))) xs ++ b) (fl (eL (eL (eI .u64))) xs ++ b') = V8 O O' n b b' := Um b b' _ (Z7 J9 xs)
theorem Zeg (xs : List (List (List Int))) : (fl (eL (eL (eI .u64))) xs).length = xs.length * 1 := Je (f := (eL (eL (eI .u64)))) (k := 1) (fun _ => rfl) xs
theorem Zem (xs : List (List (List Int))) : (fl (eL (eL (eI .u64))) xs).all G.one = true := Kj (fun x => by simp [eI, eB, eS, eL, eP, Zbb, G.one, Value.oneCell']) xs
theorem Ze0 {O O' : Objs} {n : Nat} (x : Option (List (List Int))) : wk O O' n (gP (eL (eL (eI .u64))) x) (gP (eL (eL (eI .u64))) x) = True := Zht J9 x
theorem Zd1 {k : Nat} (x : Option (List (List Int))) : (gP (eL (eL (eI .u64))) x).under k = true := Uk J9 k x
theorem Zdx {ρ : Nat → Nat} (xs : List (List (List Int))) : G.rens ρ (fl (eL (eL (eI .u64))) xs) = fl (eL (eL (eI .u64))) xs := Jl ρ _ (Z7 J9 xs)
theorem Zdv {ρ : Nat → Nat} (x : Option (List (List Int))) : (gP (eL (eL (eI .u64))) x).ren ρ = gP (eL (eL (eI .u64))) x := V5 ρ _ (Ju J9 x)
theorem Zeu {k : Nat} (xs : List (List (List Int))) : G.unders k (fl (eL (eL (eI .u64))) xs) = true := Y6 _ _ (Z7 J9 xs)
def Yk (x : Zg) : List G := [.val (.int .u64 x.hash), (gP Zi x.r.a), .val (.int .i64 x.r.kind), .val (.int .i64 x.r.segment), .val (.int .i64 x.r.at_), .val (.int .i64 x.r.words), .val (.int .i64 x.r.ptrs), .val (.int .i64 x.r.count), .val (.int .i64 x.r.code), .val (.int .i64 x.r.index)]
def Ze (x : Za) : List G := [(gP Zi x.a), .val (.int .i64 x.kind), .val (.int .i64 x.segment), .val (.int .i64 x.at_), .val (.int .i64 x.words), .val (.int .i64 x.ptrs), .val (.int .i64 x.count), .val (.int .i64 x.code), .val (.int .i64 x.index)]
def Yl (x : Z6) : List G := [.val (.int .i64 x.Kind), .val (.int .i64 x.Off), .val (.int .i64 x.Data), .val (.int .i64 x.Ptrs), .val (.int .i64 x.Code), .val (.int .i64 x.Count), .val (.int .i64 x.Segment), .val (.bool x.Double)]
def Zs (x : Zm) : List G := [.val (.int .i64 x.Kind), .val (.int .i64 x.S), .val (.int .i64 x.At), .val (.int .i64 x.Data), .val (.int .i64 x.Ptrs), .val (.int .i64 x.Count), .val (.int .u64 x.N)]
def Zu (x : Zd) : List G := [.val (.int .i64 x.Kind), .sl x.Words.length (fl (eI .u64) x.Words), .sl x.Kids.length (fl Zk x.Kids)]
def Yf (x : Zw) : List G := [.val (.int .i64 x.Depth), .val (.int .i64 x.Weight), .val (.int .i64 x.MaxD), .val (.int .i64 x.MaxOut)]
abbrev vI (x : Int) : G := .val (.int .i64 x)
abbrev vB (x : Bool) : G := .val (.bool x)
abbrev nV : G := .val (.slice none 0 0)
abbrev sL {α : Type} (e : α → List G) (x : List α) : G := .sl x.length (fl e x)
abbrev oR {α : Type} (t s : Nat) (e : α → List G) (x : List α) : GObj := ⟨true, t, s, x.length, fl e x⟩
theorem Uw {f : FuncId} {gs : List G} {O O2 : Objs} {n n2 : Nat} {r : G} {fn : Func} {c : Code} (hc : ∀ args w, (callFunc f args).run Try.prog w = .ok (.enter f args) w) (hf : Try.prog.funcs[f]? = some fn) (h : Und O n → O n = none → (∀ k, O (n + k) = none) → W Try.prog n c (Fin Qf fn.results.toList r n O2 n2) ⟨fn.ntmps, [], Zg7 0 gs⟩ (Zt O n []) n) (hb : fn.body = some c := by exact rfl) (hn : gs.length ≤ fn.ntmps := by exact Nat.le_of_ble_eq_true rfl) (h2 : n ≤ n2 := by first | exact Nat.le_refl _ | omega) : GTo Try.prog f gs O n r O2 n2 := Zf0 Zz hc hf hb hn h2 fun hU => h hU (hU.fresh _ (Nat.le_refl _)) fun k => hU.fresh _ (Nat.le_add_right _ _)
structure Hid (p : Prop) : Prop where
 get : p
structure Ar {α : Type} (a : α) : Prop where
def Ar.v {α : Type} {a : α} (_ : Ar a) : α := a
theorem zQ {A B : Prop} (l0 : List Nat) (b : B) (e : Ar l0 → Hid B → A := by intro x0 bZ; refine U0 x0.v (Z8 Zz [] ?_); simp only [push_cast, seval, ↓reduceIte, Zj, Ar.v, hN0, hN]; exact bZ.get) : A := e ⟨⟩ ⟨b⟩
theorem zW {A B : Prop} (b : B) (e : Hid B → A := by intro bZ; refine Z28 ?_; (try simp only [Xc, Yn]); exact bZ.get) : A := e ⟨b⟩
theorem zK {A B : Prop} (b : B) (e : Hid B → A := by intro bZ; refine Zyy ?_; (try simp only [Xc, Yn]); exact bZ.get) : A := e ⟨b⟩
theorem zSe {A : Prop} (e : A := by simp only [push_cast, seval, ↓reduceIte, Zj, hN0, hN]) : A := e
theorem zQd {A B : Prop} (l0 : List Nat) (l1 : List Nat) (l2 : List Bool) (b : B) (e : Ar l0 → Ar l1 → Ar l2 → Hid B → A := by intro x0 x1 x2 bZ; refine U0 x0.v (Z8 Zz [] ?_); simp only [push_cast, seval, ↓reduceIte, Zj, Ar.v, hN0, hN]; refine Zji x1.v x2.v ?_; simp only [push_cast, seval, ↓reduceIte, Ar.v]; exact bZ.get) : A := e ⟨⟩ ⟨⟩ ⟨⟩ ⟨b⟩
theorem Qg {A B : Prop} (l0 : List Nat) (l1 : List Bool) (b : B) (e : Ar l0 → Ar l1 → Hid B → A := by intro x0 x1 bZ; refine Zyy ?_; (try simp only [Xc, Yn]); refine Zji x0.v x1.v ?_; simp only [push_cast, seval, ↓reduceIte, Ar.v]; exact bZ.get) : A := e ⟨⟩ ⟨⟩ ⟨b⟩
theorem zF3 {A B : Prop} {P0 : Prop} (p0 : P0) {P1 : Prop} (p1 : P1) {P2 : Prop} (p2 : P2) (b : B) (e : P0 → P1 → P2 → Hid B → A := by intro x0 x1 x2 bZ; simp only [push_cast, Nat.reduceAdd, Nat.reduceSub, Nat.reduceMul, Nat.reduceLeDiff, Nat.reduceLT, Nat.reduceEqDiff, ↓reduceIte, reduceCtorEq, Int.reduceBEq, Int.reduceBNe, Nat.reduceBEq, Int.reduceLE, Int.reduceLT, Int.reduceEq, Int.reduceNe, Int.reduceNeg, Nat.reduceDiv, Nat.reduceMod, Nat.reducePow, Zj, x0, x1, x2, hN0, hN]; exact bZ.get) : A := e p0 p1 p2 ⟨b⟩
theorem Z44 {A B : Prop} (l0 : List (Option Bool)) {P1 : Prop} (p1 : P1) {P2 : Prop} (p2 : P2) {P3 : Prop} (p3 : P3) {P4 : Prop} (p4 : P4) (b : B) (e : Ar l0 → P1 → P2 → P3 → P4 → Hid B → A := by intro x0 x1 x2 x3 x4 bZ; refine Z8 Zz x0.v ?_; simp only [push_cast, Nat.reduceAdd, Nat.reduceSub, Nat.reduceMul, Nat.reduceLeDiff, Nat.reduceLT, Nat.reduceEqDiff, ↓reduceIte, reduceCtorEq, Int.reduceBEq, Int.reduceBNe, Nat.reduceBEq, Int.reduceLE, Int.reduceLT, Int.reduceEq, Int.reduceNe, Int.reduceNeg, Nat.reduceDiv, Nat.reduceMod, Nat.reducePow, Zj, Ar.v, x1, x2, x3, x4, hN0, hN]; exact bZ.get) : A := e ⟨⟩ p1 p2 p3 p4 ⟨b⟩
theorem zF4 {A B : Prop} {P0 : Prop} (p0 : P0) {P1 : Prop} (p1 : P1) {P2 : Prop} (p2 : P2) {P3 : Prop} (p3 : P3) (b : B) (e : P0 → P1 → P2 → P3 → Hid B → A := by intro x0 x1 x2 x3 bZ; simp only [push_cast, Nat.reduceAdd, Nat.reduceSub, Nat.reduceMul, Nat.reduceLeDiff, Nat.reduceLT, Nat.reduceEqDiff, ↓reduceIte, reduceCtorEq, Int.reduceBEq, Int.reduceBNe, Nat.reduceBEq, Int.reduceLE, Int.reduceLT, Int.reduceEq, Int.reduceNe, Int.reduceNeg, Nat.reduceDiv, Nat.reduceMod, Nat.reducePow, Zj, x0, x1, x2, x3, hN0, hN]; exact bZ.get) : A := e p0 p1 p2 p3 ⟨b⟩
theorem zD {A B : Prop} (l0 : List Nat) (l1 : List Bool) (b : B) (e : Ar l0 → Ar l1 → Hid B → A := by intro x0 x1 bZ; refine Zji x0.v x1.v ?_; simp only [push_cast, seval, ↓reduceIte, Ar.v]; exact bZ.get) : A := e ⟨⟩ ⟨⟩ ⟨b⟩
theorem zR {A B : Prop} (b : B) (e : Hid B → A := by intro bZ; refine Z8 Zz [] ?_; simp only [push_cast, seval, ↓reduceIte, Zj, hN0, hN]; exact bZ.get) : A := e ⟨b⟩
theorem zEn {A : Prop} {P0 : Prop} (p0 : P0) (e : P0 → A := by intro x0; have h9 := Option.some.inj x0; subst h9; refine And.intro rfl (Fit2.of (Ym hU rfl rfl ?_) (by omega)); simp only [push_cast, seval, ↓reduceIte, Zj, hN0, hN]) : A := e p0
theorem zEx {A : Prop} {P0 : Prop} (p0 : P0) (e : P0 → A := by intro x0; refine Zyx ?_; (try simp only [Xc, Yn, ↓reduceIte, Nat.reduceEqDiff]); have h9 := Option.some.inj x0; subst h9; refine And.intro (fun h => by cases h) (And.intro rfl (Fit2.of (Ym hU rfl rfl ?_) (by omega))); simp only [push_cast, seval, ↓reduceIte, Zj, hN0, hN]) : A := e p0
theorem Z5 {A : Prop} (l0 : List G) (e : Ar l0 → A := by intro x0; refine Z28 ?_; (try simp only [Xc, Yn]); have h := Option.some.inj h; subst h; refine Zuu (.inr rfl) hU x0.v (by omega) ?_; simp only [push_cast, seval, ↓reduceIte, Zj, Ar.v, hN0, hN]) : A := e ⟨⟩
theorem Gg {A B : Prop} {P0 : Prop} (p0 : P0) (l1 : List Nat) (l2 : List Bool) (b : B) (e : P0 → Ar l1 → Ar l2 → Hid B → A := by intro x0 x1 x2 bZ; refine Z8 Zz [] ?_; simp only [push_cast, seval, ↓reduceIte, Zj, hN0, hN]; refine x0.then ?_; simp only [push_cast, seval, ↓reduceIte, Zj, hN0, hN]; refine Zji x1.v x2.v ?_; simp only [push_cast, seval, ↓reduceIte, Ar.v]; exact bZ.get) : A := e p0 ⟨⟩ ⟨⟩ ⟨b⟩
theorem Z7u {A B : Prop} (l0 : List Nat) {P1 : Prop} (p1 : P1) (b : B) (e : Ar l0 → P1 → Hid B → A := by intro x0 x1 bZ; refine U0 x0.v (Z8 Zz [] ?_); simp only [push_cast, seval, ↓reduceIte, Zj, Ar.v, x1, hN0, hN]; exact bZ.get) : A := e ⟨⟩ p1 ⟨b⟩
theorem U8 {A B : Prop} (l0 : List (Option Bool)) {P1 : Prop} (p1 : P1) (b : B) (e : Ar l0 → P1 → Hid B → A := by intro x0 x1 bZ; refine Z8 Zz x0.v ?_; simp only [push_cast, seval, ↓reduceIte, Zj, Ar.v, x1, hN0, hN]; exact bZ.get) : A := e ⟨⟩ p1 ⟨b⟩
theorem zX1 {A B : Prop} {P0 : Prop} (p0 : P0) (b : B) (e : P0 → Hid B → A := by intro x0 bZ; simp only [push_cast, seval, ↓reduceIte, Zj, x0, hN0, hN]; exact bZ.get) : A := e p0 ⟨b⟩
theorem Uv {A : Prop} {P0 : Prop} (p0 : P0) {P1 : Prop} (p1 : P1) (e : P0 → P1 → A := by intro x0 x1; have h9 := Option.some.inj x0; subst h9; refine And.intro rfl (Fit2.of (Ym hU rfl rfl ?_) (by omega)); simp only [push_cast, seval, ↓reduceIte, Zj, x1, hN0, hN]) : A := e p0 p1
theorem Z46 {A B : Prop} (l0 : List (Option Bool)) {P1 : Prop} (p1 : P1) {P2 : Prop} (p2 : P2) {P3 : Prop} (p3 : P3) {P4 : Prop} (p4 : P4) (b : B) (e : Ar l0 → P1 → P2 → P3 → P4 → Hid B → A := by intro x0 x1 x2 x3 x4 bZ; refine Z8 Zz x0.v ?_; simp only [push_cast, seval, ↓reduceIte, Zj, Ar.v, x1, x2, x3, x4, hN0, hN]; exact bZ.get) : A := e ⟨⟩ p1 p2 p3 p4 ⟨b⟩
theorem zG {A B : Prop} (b : B) (e : Hid B → A := by intro bZ; (repeat (with_reducible refine And.intro (by first | (intro h0; simp only [h0, and_self]; done) | (intro h0; simp only [h0, Bool.not_false, Bool.not_true, Bool.true_and, Bool.and_true, true_and, and_true, and_self, imp_self, implies_true, bne_iff_ne, ne_eq, beq_iff_eq]; done) | (intros; simp_all; done) | exact True.intro) ?_)); exact bZ.get) : A := e ⟨b⟩
theorem zX4 {A B : Prop} {P0 : Prop} (p0 : P0) {P1 : Prop} (p1 : P1) {P2 : Prop} (p2 : P2) {P3 : Prop} (p3 : P3) (b : B) (e : P0 → P1 → P2 → P3 → Hid B → A := by intro x0 x1 x2 x3 bZ; simp only [push_cast, seval, ↓reduceIte, Zj, x0, x1, x2, x3, hN0, hN]; exact bZ.get) : A := e p0 p1 p2 p3 ⟨b⟩
theorem Z42 {A : Prop} {P0 : Prop} (p0 : P0) {P1 : Prop} (p1 : P1) {P2 : Prop} (p2 : P2) {P3 : Prop} (p3 : P3) {P4 : Prop} (p4 : P4) (e : P0 → P1 → P2 → P3 → P4 → A := by intro x0 x1 x2 x3 x4; have h9 := Option.some.inj x0; subst h9; refine And.intro rfl (Fit2.of (Ym hU rfl rfl ?_) (by omega)); simp only [push_cast, seval, ↓reduceIte, Zj, x1, x2, x3, x4, hN0, hN]) : A := e p0 p1 p2 p3 p4
theorem Zjg {A B : Prop} (l0 : List (Option Bool)) {P1 : Prop} (p1 : P1) {P2 : Prop} (p2 : P2) {P3 : Prop} (p3 : P3) (b : B) (e : Ar l0 → P1 → P2 → P3 → Hid B → A := by intro x0 x1 x2 x3 bZ; refine Z8 Zz x0.v ?_; simp only [push_cast, seval, ↓reduceIte, Zj, Ar.v, x1, x2, x3, hN0, hN]; exact bZ.get) : A := e ⟨⟩ p1 p2 p3 ⟨b⟩
theorem zX3 {A B : Prop} {P0 : Prop} (p0 : P0) {P1 : Prop} (p1 : P1) {P2 : Prop} (p2 : P2) (b : B) (e : P0 → P1 → P2 → Hid B → A := by intro x0 x1 x2 bZ; simp only [push_cast, seval, ↓reduceIte, Zj, x0, x1, x2, hN0, hN]; exact bZ.get) : A := e p0 p1 p2 ⟨b⟩
theorem Z10 {A : Prop} {P0 : Prop} (p0 : P0) {P1 : Prop} (p1 : P1) {P2 : Prop} (p2 : P2) {P3 : Prop} (p3 : P3) (e : P0 → P1 → P2 → P3 → A := by intro x0 x1 x2 x3; have h9 := Option.some.inj x0; subst h9; refine And.intro rfl (Fit2.of (Ym hU rfl rfl ?_) (by omega)); simp only [push_cast, seval, ↓reduceIte, Zj, x1, x2, x3, hN0, hN]) : A := e p0 p1 p2 p3
theorem Qq {A B : Prop} (l0 : List (Option Bool)) {P1 : Prop} (p1 : P1) {P2 : Prop} (p2 : P2) (b : B) (e : Ar l0 → P1 → P2 → Hid B → A := by intro x0 x1 x2 bZ; refine Z8 Zz x0.v ?_; simp only [push_cast, seval, ↓reduceIte, Zj, Ar.v, x1, x2, hN0, hN]; exact bZ.get) : A := e ⟨⟩ p1 p2 ⟨b⟩
theorem zX2 {A B : Prop} {P0 : Prop} (p0 : P0) {P1 : Prop} (p1 : P1) (b : B) (e : P0 → P1 → Hid B → A := by intro x0 x1 bZ; simp only [push_cast, seval, ↓reduceIte, Zj, x0, x1, hN0, hN]; exact bZ.get) : A := e p0 p1 ⟨b⟩
theorem Znj {A : Prop} {P0 : Prop} (p0 : P0) {P1 : Prop} (p1 : P1) {P2 : Prop} (p2 : P2) (e : P0 → P1 → P2 → A := by intro x0 x1 x2; have h9 := Option.some.inj x0; subst h9; refine And.intro rfl (Fit2.of (Ym hU rfl rfl ?_) (by omega)); simp only [push_cast, seval, ↓reduceIte, Zj, x1, x2, hN0, hN]) : A := e p0 p1 p2
theorem zF7 {A B : Prop} {P0 : Prop} (p0 : P0) {P1 : Prop} (p1 : P1) {P2 : Prop} (p2 : P2) {P3 : Prop} (p3 : P3) {P4 : Prop} (p4 : P4) {P5 : Prop} (p5 : P5) {P6 : Prop} (p6 : P6) (b : B) (e : P0 → P1 → P2 → P3 → P4 → P5 → P6 → Hid B → A := by intro x0 x1 x2 x3 x4 x5 x6 bZ; simp only [push_cast, Nat.reduceAdd, Nat.reduceSub, Nat.reduceMul, Nat.reduceLeDiff, Nat.reduceLT, Nat.reduceEqDiff, ↓reduceIte, reduceCtorEq, Int.reduceBEq, Int.reduceBNe, Nat.reduceBEq, Int.reduceLE, Int.reduceLT, Int.reduceEq, Int.reduceNe, Int.reduceNeg, Nat.reduceDiv, Nat.reduceMod, Nat.reducePow, Zj, x0, x1, x2, x3, x4, x5, x6, hN0, hN]; exact bZ.get) : A := e p0 p1 p2 p3 p4 p5 p6 ⟨b⟩
theorem zC {A B : Prop} {P0 : Prop} (p0 : P0) (b : B) (e : P0 → Hid B → A := by intro x0 bZ; refine Z8 Zz [] ?_; simp only [push_cast, seval, ↓reduceIte, Zj, hN0, hN]; refine x0.then ?_; simp only [push_cast, seval, ↓reduceIte, Zj, hN0, hN]; exact bZ.get) : A := e p0 ⟨b⟩
theorem zTs {A B : Prop} {P0 : Prop} (p0 : P0) (b : B) (e : P0 → Hid B → A := by intro x0 bZ; refine x0.then ?_; simp only [push_cast, seval, ↓reduceIte, Zj, hN0, hN]; exact bZ.get) : A := e p0 ⟨b⟩
theorem Z7v {A B : Prop} (l0 : List (Option Bool)) {P1 : Prop} (p1 : P1) {P2 : Prop} (p2 : P2) {P3 : Prop} (p3 : P3) {P4 : Prop} (p4 : P4) {P5 : Prop} (p5 : P5) {P6 : Prop} (p6 : P6) {P7 : Prop} (p7 : P7) {P8 : Prop} (p8 : P8) (b : B) (e : Ar l0 → P1 → P2 → P3 → P4 → P5 → P6 → P7 → P8 → Hid B → A := by intro x0 x1 x2 x3 x4 x5 x6 x7 x8 bZ; refine Z8 Zz x0.v ?_; simp only [push_cast, Nat.reduceAdd, Nat.reduceSub, Nat.reduceMul, Nat.reduceLeDiff, Nat.reduceLT, Nat.reduceEqDiff, ↓reduceIte, reduceCtorEq, Int.reduceBEq, Int.reduceBNe, Nat.reduceBEq, Int.reduceLE, Int.reduceLT, Int.reduceEq, Int.reduceNe, Int.reduceNeg, Nat.reduceDiv, Nat.reduceMod, Nat.reducePow, Zj, Ar.v, x1, x2, x3, x4, x5, x6, x7, x8, hN0, hN]; exact bZ.get) : A := e ⟨⟩ p1 p2 p3 p4 p5 p6 p7 p8 ⟨b⟩
theorem zF8 {A B : Prop} {P0 : Prop} (p0 : P0) {P1 : Prop} (p1 : P1) {P2 : Prop} (p2 : P2) {P3 : Prop} (p3 : P3) {P4 : Prop} (p4 : P4) {P5 : Prop} (p5 : P5) {P6 : Prop} (p6 : P6) {P7 : Prop} (p7 : P7) (b : B) (e : P0 → P1 → P2 → P3 → P4 → P5 → P6 → P7 → Hid B → A := by intro x0 x1 x2 x3 x4 x5 x6 x7 bZ; simp only [push_cast, Nat.reduceAdd, Nat.reduceSub, Nat.reduceMul, Nat.reduceLeDiff, Nat.reduceLT, Nat.reduceEqDiff, ↓reduceIte, reduceCtorEq, Int.reduceBEq, Int.reduceBNe, Nat.reduceBEq, Int.reduceLE, Int.reduceLT, Int.reduceEq, Int.reduceNe, Int.reduceNeg, Nat.reduceDiv, Nat.reduceMod, Nat.reducePow, Zj, x0, x1, x2, x3, x4, x5, x6, x7, hN0, hN]; exact bZ.get) : A := e p0 p1 p2 p3 p4 p5 p6 p7 ⟨b⟩
theorem zQD {A B : Prop} (l0 : List Nat) (l1 : List (Option Bool)) (b : B) (e : Ar l0 → Ar l1 → Hid B → A := by intro x0 x1 bZ; refine U0 x0.v (Z8 Zz x1.v ?_); simp only [push_cast, seval, ↓reduceIte, Zj, Ar.v, hN0, hN]; (repeat (with_reducible refine And.intro (by first | (intro h0; simp only [h0, and_self]; done) | (intro h0; simp only [h0, Bool.not_false, Bool.not_true, Bool.true_and, Bool.and_true, true_and, and_true, and_self, imp_self, implies_true, bne_iff_ne, ne_eq, beq_iff_eq]; done) | (intros; simp_all; done) | exact True.intro) ?_)); exact bZ.get) : A := e ⟨⟩ ⟨⟩ ⟨b⟩
theorem zS {A B : Prop} (b : B) (e : Hid B → A := by intro bZ; simp only [push_cast, seval, ↓reduceIte, Zj, hN0, hN]; exact bZ.get) : A := e ⟨b⟩
theorem zRd {A B : Prop} (l0 : List Nat) (l1 : List Bool) (b : B) (e : Ar l0 → Ar l1 → Hid B → A := by intro x0 x1 bZ; refine Z8 Zz [] ?_; simp only [push_cast, seval, ↓reduceIte, Zj, hN0, hN]; refine Zji x0.v x1.v ?_; simp only [push_cast, seval, ↓reduceIte, Ar.v]; exact bZ.get) : A := e ⟨⟩ ⟨⟩ ⟨b⟩
theorem zF6 {A B : Prop} {P0 : Prop} (p0 : P0) {P1 : Prop} (p1 : P1) {P2 : Prop} (p2 : P2) {P3 : Prop} (p3 : P3) {P4 : Prop} (p4 : P4) {P5 : Prop} (p5 : P5) (b : B) (e : P0 → P1 → P2 → P3 → P4 → P5 → Hid B → A := by intro x0 x1 x2 x3 x4 x5 bZ; simp only [push_cast, Nat.reduceAdd, Nat.reduceSub, Nat.reduceMul, Nat.reduceLeDiff, Nat.reduceLT, Nat.reduceEqDiff, ↓reduceIte, reduceCtorEq, Int.reduceBEq, Int.reduceBNe, Nat.reduceBEq, Int.reduceLE, Int.reduceLT, Int.reduceEq, Int.reduceNe, Int.reduceNeg, Nat.reduceDiv, Nat.reduceMod, Nat.reducePow, Zj, x0, x1, x2, x3, x4, x5, hN0, hN]; exact bZ.get) : A := e p0 p1 p2 p3 p4 p5 ⟨b⟩
theorem Z7q {A : Prop} {P0 : Prop} (p0 : P0) {P1 : Prop} (p1 : P1) {P2 : Prop} (p2 : P2) {P3 : Prop} (p3 : P3) {P4 : Prop} (p4 : P4) {P5 : Prop} (p5 : P5) (e : P0 → P1 → P2 → P3 → P4 → P5 → A := by intro x0 x1 x2 x3 x4 x5; refine And.intro rfl (Fit2.of (Ym hU rfl rfl ?_) (by omega)); simp only [push_cast, Nat.reduceAdd, Nat.reduceSub, Nat.reduceMul, Nat.reduceLeDiff, Nat.reduceLT, Nat.reduceEqDiff, ↓reduceIte, reduceCtorEq, Int.reduceBEq, Int.reduceBNe, Nat.reduceBEq, Int.reduceLE, Int.reduceLT, Int.reduceEq, Int.reduceNe, Int.reduceNeg, Nat.reduceDiv, Nat.reduceMod, Nat.reducePow, Zj, x0, x1, x2, x3, x4, x5, hN0, hN]) : A := e p0 p1 p2 p3 p4 p5
theorem Z9g {A : Prop} {P0 : Prop} (p0 : P0) {P1 : Prop} (p1 : P1) {P2 : Prop} (p2 : P2) {P3 : Prop} (p3 : P3) {P4 : Prop} (p4 : P4) {P5 : Prop} (p5 : P5) (e : P0 → P1 → P2 → P3 → P4 → P5 → A := by intro x0 x1 x2 x3 x4 x5; simp only [push_cast, Nat.reduceAdd, Nat.reduceSub, Nat.reduceMul, Nat.reduceLeDiff, Nat.reduceLT, Nat.reduceEqDiff, ↓reduceIte, reduceCtorEq, Int.reduceBEq, Int.reduceBNe, Nat.reduceBEq, Int.reduceLE, Int.reduceLT, Int.reduceEq, Int.reduceNe, Int.reduceNeg, Nat.reduceDiv, Nat.reduceMod, Nat.reducePow, Zj, x0, x1, x2, x3, x4, x5, hN0, hN]) : A := e p0 p1 p2 p3 p4 p5
theorem zO {A B : Prop} (b : B) (e : Hid B → A := by intro bZ; (repeat (with_reducible refine And.intro (by first | omega | exact Zec rfl | exact Zc0 | exact Zxy rfl | exact Zqy rfl rfl | exact Zlj rfl | exact Zqx rfl) ?_)); exact bZ.get) : A := e ⟨b⟩
theorem zDs {A B : Prop} (l0 : List Nat) (l1 : List Bool) (b : B) (e : Ar l0 → Ar l1 → Hid B → A := by intro x0 x1 bZ; refine Zji x0.v x1.v ?_; simp only [push_cast, seval, ↓reduceIte, Ar.v]; refine Zc ?_; exact bZ.get) : A := e ⟨⟩ ⟨⟩ ⟨b⟩
theorem zEy {A : Prop} {P0 : Prop} (p0 : P0) (e : P0 → A := by intro x0; have h9 := Option.some.inj x0; subst h9; refine And.intro (fun h => by cases h) (And.intro rfl (Fit2.of (Ym hU rfl rfl ?_) (by omega))); simp only [push_cast, seval, ↓reduceIte, Zj, hN0, hN]) : A := e p0
theorem Znv {A : Prop} (l0 : List G) (e : Ar l0 → A := by intro x0; have h := Option.some.inj h; subst h; refine Zuu (.inr rfl) hU x0.v (by omega) ?_; simp only [push_cast, seval, ↓reduceIte, Zj, Ar.v, hN0, hN]) : A := e ⟨⟩
theorem Y7 {A : Prop} {P0 : Prop} (p0 : P0) {P1 : Prop} (p1 : P1) (e : P0 → P1 → A := by intro x0 x1; simp only [push_cast, seval, ↓reduceIte, Zj, x0, x1, hN0, hN]) : A := e p0 p1
theorem Q7 {A B : Prop} (l0 : List Nat) {P1 : Prop} (p1 : P1) {P2 : Prop} (p2 : P2) (b : B) (e : Ar l0 → P1 → P2 → Hid B → A := by intro x0 x1 x2 bZ; refine U0 x0.v (Z8 Zz [] ?_); simp only [push_cast, seval, ↓reduceIte, Zj, Ar.v, x1, x2, hN0, hN]; exact bZ.get) : A := e ⟨⟩ p1 p2 ⟨b⟩
theorem zXt {A B : Prop} (b : B) (e : Hid B → A := by intro bZ; refine Zyx ?_; (try simp only [Xc, Yn, ↓reduceIte, Nat.reduceEqDiff]); exact bZ.get) : A := e ⟨b⟩
theorem Z45 {A B : Prop} (l0 : List (Option Bool)) {P1 : Prop} (p1 : P1) {P2 : Prop} (p2 : P2) {P3 : Prop} (p3 : P3) {P4 : Prop} (p4 : P4) {P5 : Prop} (p5 : P5) (b : B) (e : Ar l0 → P1 → P2 → P3 → P4 → P5 → Hid B → A := by intro x0 x1 x2 x3 x4 x5 bZ; refine Z8 Zz x0.v ?_; simp only [push_cast, Nat.reduceAdd, Nat.reduceSub, Nat.reduceMul, Nat.reduceLeDiff, Nat.reduceLT, Nat.reduceEqDiff, ↓reduceIte, reduceCtorEq, Int.reduceBEq, Int.reduceBNe, Nat.reduceBEq, Int.reduceLE, Int.reduceLT, Int.reduceEq, Int.reduceNe, Int.reduceNeg, Nat.reduceDiv, Nat.reduceMod, Nat.reducePow, Zj, Ar.v, x1, x2, x3, x4, x5, hN0, hN]; exact bZ.get) : A := e ⟨⟩ p1 p2 p3 p4 p5 ⟨b⟩
theorem zF5 {A B : Prop} {P0 : Prop} (p0 : P0) {P1 : Prop} (p1 : P1) {P2 : Prop} (p2 : P2) {P3 : Prop} (p3 : P3) {P4 : Prop} (p4 : P4) (b : B) (e : P0 → P1 → P2 → P3 → P4 → Hid B → A := by intro x0 x1 x2 x3 x4 bZ; simp only [push_cast, Nat.reduceAdd, Nat.reduceSub, Nat.reduceMul, Nat.reduceLeDiff, Nat.reduceLT, Nat.reduceEqDiff, ↓reduceIte, reduceCtorEq, Int.reduceBEq, Int.reduceBNe, Nat.reduceBEq, Int.reduceLE, Int.reduceLT, Int.reduceEq, Int.reduceNe, Int.reduceNeg, Nat.reduceDiv, Nat.reduceMod, Nat.reducePow, Zj, x0, x1, x2, x3, x4, hN0, hN]; exact bZ.get) : A := e p0 p1 p2 p3 p4 ⟨b⟩
theorem Zxt {A B : Prop} (l0 : List (Option Bool)) {P1 : Prop} (p1 : P1) {P2 : Prop} (p2 : P2) {P3 : Prop} (p3 : P3) {P4 : Prop} (p4 : P4) {P5 : Prop} (p5 : P5) {P6 : Prop} (p6 : P6) (b : B) (e : Ar l0 → P1 → P2 → P3 → P4 → P5 → P6 → Hid B → A := by intro x0 x1 x2 x3 x4 x5 x6 bZ; refine Z8 Zz x0.v ?_; simp only [push_cast, Nat.reduceAdd, Nat.reduceSub, Nat.reduceMul, Nat.reduceLeDiff, Nat.reduceLT, Nat.reduceEqDiff, ↓reduceIte, reduceCtorEq, Int.reduceBEq, Int.reduceBNe, Nat.reduceBEq, Int.reduceLE, Int.reduceLT, Int.reduceEq, Int.reduceNe, Int.reduceNeg, Nat.reduceDiv, Nat.reduceMod, Nat.reducePow, Zj, Ar.v, x1, x2, x3, x4, x5, x6, hN0, hN]; exact bZ.get) : A := e ⟨⟩ p1 p2 p3 p4 p5 p6 ⟨b⟩
theorem Zup {A : Prop} {P0 : Prop} (p0 : P0) {P1 : Prop} (p1 : P1) {P2 : Prop} (p2 : P2) (e : P0 → P1 → P2 → A := by intro x0 x1 x2; simp only [push_cast, seval, ↓reduceIte, Zj, x0, x1, x2, hN0, hN]) : A := e p0 p1 p2
theorem zX5 {A B : Prop} {P0 : Prop} (p0 : P0) {P1 : Prop} (p1 : P1) {P2 : Prop} (p2 : P2) {P3 : Prop} (p3 : P3) {P4 : Prop} (p4 : P4) (b : B) (e : P0 → P1 → P2 → P3 → P4 → Hid B → A := by intro x0 x1 x2 x3 x4 bZ; simp only [push_cast, seval, ↓reduceIte, Zj, x0, x1, x2, x3, x4, hN0, hN]; exact bZ.get) : A := e p0 p1 p2 p3 p4 ⟨b⟩
theorem Z5y {A : Prop} {P0 : Prop} (p0 : P0) {P1 : Prop} (p1 : P1) {P2 : Prop} (p2 : P2) {P3 : Prop} (p3 : P3) {P4 : Prop} (p4 : P4) (e : P0 → P1 → P2 → P3 → P4 → A := by intro x0 x1 x2 x3 x4; simp only [push_cast, seval, ↓reduceIte, Zj, x0, x1, x2, x3, x4, hN0, hN]) : A := e p0 p1 p2 p3 p4
theorem Z43 {A B : Prop} (l0 : List (Option Bool)) {P1 : Prop} (p1 : P1) {P2 : Prop} (p2 : P2) {P3 : Prop} (p3 : P3) (b : B) (e : Ar l0 → P1 → P2 → P3 → Hid B → A := by intro x0 x1 x2 x3 bZ; refine Z8 Zz x0.v ?_; simp only [push_cast, Nat.reduceAdd, Nat.reduceSub, Nat.reduceMul, Nat.reduceLeDiff, Nat.reduceLT, Nat.reduceEqDiff, ↓reduceIte, reduceCtorEq, Int.reduceBEq, Int.reduceBNe, Nat.reduceBEq, Int.reduceLE, Int.reduceLT, Int.reduceEq, Int.reduceNe, Int.reduceNeg, Nat.reduceDiv, Nat.reduceMod, Nat.reducePow, Zj, Ar.v, x1, x2, x3, hN0, hN]; exact bZ.get) : A := e ⟨⟩ p1 p2 p3 ⟨b⟩
theorem Z47 {A B : Prop} (l0 : List (Option Bool)) {P1 : Prop} (p1 : P1) {P2 : Prop} (p2 : P2) {P3 : Prop} (p3 : P3) {P4 : Prop} (p4 : P4) {P5 : Prop} (p5 : P5) (b : B) (e : Ar l0 → P1 → P2 → P3 → P4 → P5 → Hid B → A := by intro x0 x1 x2 x3 x4 x5 bZ; refine Z8 Zz x0.v ?_; simp only [push_cast, seval, ↓reduceIte, Zj, Ar.v, x1, x2, x3, x4, x5, hN0, hN]; exact bZ.get) : A := e ⟨⟩ p1 p2 p3 p4 p5 ⟨b⟩
theorem Z7r {A : Prop} {P0 : Prop} (p0 : P0) {P1 : Prop} (p1 : P1) {P2 : Prop} (p2 : P2) {P3 : Prop} (p3 : P3) {P4 : Prop} (p4 : P4) (e : P0 → P1 → P2 → P3 → P4 → A := by intro x0 x1 x2 x3 x4; have h9 := Option.some.inj x0; subst h9; refine And.intro rfl (Fit2.of (Ym hU rfl rfl ?_) (by omega)); simp only [push_cast, Nat.reduceAdd, Nat.reduceSub, Nat.reduceMul, Nat.reduceLeDiff, Nat.reduceLT, Nat.reduceEqDiff, ↓reduceIte, reduceCtorEq, Int.reduceBEq, Int.reduceBNe, Nat.reduceBEq, Int.reduceLE, Int.reduceLT, Int.reduceEq, Int.reduceNe, Int.reduceNeg, Nat.reduceDiv, Nat.reduceMod, Nat.reducePow, Zj, x1, x2, x3, x4, hN0, hN]) : A := e p0 p1 p2 p3 p4
theorem Z7w {A B : Prop} (l0 : List (Option Bool)) {P1 : Prop} (p1 : P1) {P2 : Prop} (p2 : P2) {P3 : Prop} (p3 : P3) {P4 : Prop} (p4 : P4) {P5 : Prop} (p5 : P5) {P6 : Prop} (p6 : P6) {P7 : Prop} (p7 : P7) (b : B) (e : Ar l0 → P1 → P2 → P3 → P4 → P5 → P6 → P7 → Hid B → A := by intro x0 x1 x2 x3 x4 x5 x6 x7 bZ; refine Z8 Zz x0.v ?_; simp only [push_cast, seval, ↓reduceIte, Zj, Ar.v, x1, x2, x3, x4, x5, x6, x7, hN0, hN]; exact bZ.get) : A := e ⟨⟩ p1 p2 p3 p4 p5 p6 p7 ⟨b⟩
theorem Z40 {A : Prop} {P0 : Prop} (p0 : P0) {P1 : Prop} (p1 : P1) {P2 : Prop} (p2 : P2) {P3 : Prop} (p3 : P3) {P4 : Prop} (p4 : P4) {P5 : Prop} (p5 : P5) {P6 : Prop} (p6 : P6) (e : P0 → P1 → P2 → P3 → P4 → P5 → P6 → A := by intro x0 x1 x2 x3 x4 x5 x6; have h9 := Option.some.inj x0; subst h9; refine And.intro rfl (Fit2.of (Ym hU rfl rfl ?_) (by omega)); simp only [push_cast, Nat.reduceAdd, Nat.reduceSub, Nat.reduceMul, Nat.reduceLeDiff, Nat.reduceLT, Nat.reduceEqDiff, ↓reduceIte, reduceCtorEq, Int.reduceBEq, Int.reduceBNe, Nat.reduceBEq, Int.reduceLE, Int.reduceLT, Int.reduceEq, Int.reduceNe, Int.reduceNeg, Nat.reduceDiv, Nat.reduceMod, Nat.reducePow, Zj, x1, x2, x3, x4, x5, x6, hN0, hN]) : A := e p0 p1 p2 p3 p4 p5 p6
theorem Z41 {A : Prop} {P0 : Prop} (p0 : P0) {P1 : Prop} (p1 : P1) {P2 : Prop} (p2 : P2) {P3 : Prop} (p3 : P3) {P4 : Prop} (p4 : P4) {P5 : Prop} (p5 : P5) {P6 : Prop} (p6 : P6) {P7 : Prop} (p7 : P7) (e : P0 → P1 → P2 → P3 → P4 → P5 → P6 → P7 → A := by intro x0 x1 x2 x3 x4 x5 x6 x7; have h9 := Option.some.inj x0; subst h9; refine And.intro rfl (Fit2.of (Ym hU rfl rfl ?_) (by omega)); simp only [push_cast, Nat.reduceAdd, Nat.reduceSub, Nat.reduceMul, Nat.reduceLeDiff, Nat.reduceLT, Nat.reduceEqDiff, ↓reduceIte, reduceCtorEq, Int.reduceBEq, Int.reduceBNe, Nat.reduceBEq, Int.reduceLE, Int.reduceLT, Int.reduceEq, Int.reduceNe, Int.reduceNeg, Nat.reduceDiv, Nat.reduceMod, Nat.reducePow, Zj, x1, x2, x3, x4, x5, x6, x7, hN0, hN]) : A := e p0 p1 p2 p3 p4 p5 p6 p7
theorem zF9 {A B : Prop} {P0 : Prop} (p0 : P0) {P1 : Prop} (p1 : P1) {P2 : Prop} (p2 : P2) {P3 : Prop} (p3 : P3) {P4 : Prop} (p4 : P4) {P5 : Prop} (p5 : P5) {P6 : Prop} (p6 : P6) {P7 : Prop} (p7 : P7) {P8 : Prop} (p8 : P8) (b : B) (e : P0 → P1 → P2 → P3 → P4 → P5 → P6 → P7 → P8 → Hid B → A := by intro x0 x1 x2 x3 x4 x5 x6 x7 x8 bZ; simp only [push_cast, Nat.reduceAdd, Nat.reduceSub, Nat.reduceMul, Nat.reduceLeDiff, Nat.reduceLT, Nat.reduceEqDiff, ↓reduceIte, reduceCtorEq, Int.reduceBEq, Int.reduceBNe, Nat.reduceBEq, Int.reduceLE, Int.reduceLT, Int.reduceEq, Int.reduceNe, Int.reduceNeg, Nat.reduceDiv, Nat.reduceMod, Nat.reducePow, Zj, x0, x1, x2, x3, x4, x5, x6, x7, x8, hN0, hN]; exact bZ.get) : A := e p0 p1 p2 p3 p4 p5 p6 p7 p8 ⟨b⟩
theorem Z7t {A : Prop} {P0 : Prop} (p0 : P0) {P1 : Prop} (p1 : P1) {P2 : Prop} (p2 : P2) {P3 : Prop} (p3 : P3) {P4 : Prop} (p4 : P4) {P5 : Prop} (p5 : P5) {P6 : Prop} (p6 : P6) {P7 : Prop} (p7 : P7) {P8 : Prop} (p8 : P8) (e : P0 → P1 → P2 → P3 → P4 → P5 → P6 → P7 → P8 → A := by intro x0 x1 x2 x3 x4 x5 x6 x7 x8; simp only [push_cast, Nat.reduceAdd, Nat.reduceSub, Nat.reduceMul, Nat.reduceLeDiff, Nat.reduceLT, Nat.reduceEqDiff, ↓reduceIte, reduceCtorEq, Int.reduceBEq, Int.reduceBNe, Nat.reduceBEq, Int.reduceLE, Int.reduceLT, Int.reduceEq, Int.reduceNe, Int.reduceNeg, Nat.reduceDiv, Nat.reduceMod, Nat.reducePow, Zj, x0, x1, x2, x3, x4, x5, x6, x7, x8, hN0, hN]) : A := e p0 p1 p2 p3 p4 p5 p6 p7 p8
theorem Z9f {A B : Prop} {P0 : Prop} (p0 : P0) {P1 : Prop} (p1 : P1) {P2 : Prop} (p2 : P2) {P3 : Prop} (p3 : P3) {P4 : Prop} (p4 : P4) {P5 : Prop} (p5 : P5) {P6 : Prop} (p6 : P6) {P7 : Prop} (p7 : P7) {P8 : Prop} (p8 : P8) {P9 : Prop} (p9 : P9) (b : B) (e : P0 → P1 → P2 → P3 → P4 → P5 → P6 → P7 → P8 → P9 → Hid B → A := by intro x0 x1 x2 x3 x4 x5 x6 x7 x8 x9 bZ; simp only [push_cast, Nat.reduceAdd, Nat.reduceSub, Nat.reduceMul, Nat.reduceLeDiff, Nat.reduceLT, Nat.reduceEqDiff, ↓reduceIte, reduceCtorEq, Int.reduceBEq, Int.reduceBNe, Nat.reduceBEq, Int.reduceLE, Int.reduceLT, Int.reduceEq, Int.reduceNe, Int.reduceNeg, Nat.reduceDiv, Nat.reduceMod, Nat.reducePow, Zj, x0, x1, x2, x3, x4, x5, x6, x7, x8, x9, hN0, hN]; exact bZ.get) : A := e p0 p1 p2 p3 p4 p5 p6 p7 p8 p9 ⟨b⟩
theorem Z7s {A : Prop} {P0 : Prop} (p0 : P0) {P1 : Prop} (p1 : P1) {P2 : Prop} (p2 : P2) {P3 : Prop} (p3 : P3) {P4 : Prop} (p4 : P4) {P5 : Prop} (p5 : P5) {P6 : Prop} (p6 : P6) {P7 : Prop} (p7 : P7) {P8 : Prop} (p8 : P8) {P9 : Prop} (p9 : P9) (e : P0 → P1 → P2 → P3 → P4 → P5 → P6 → P7 → P8 → P9 → A := by intro x0 x1 x2 x3 x4 x5 x6 x7 x8 x9; simp only [push_cast, Nat.reduceAdd, Nat.reduceSub, Nat.reduceMul, Nat.reduceLeDiff, Nat.reduceLT, Nat.reduceEqDiff, ↓reduceIte, reduceCtorEq, Int.reduceBEq, Int.reduceBNe, Nat.reduceBEq, Int.reduceLE, Int.reduceLT, Int.reduceEq, Int.reduceNe, Int.reduceNeg, Nat.reduceDiv, Nat.reduceMod, Nat.reducePow, Zj, x0, x1, x2, x3, x4, x5, x6, x7, x8, x9, hN0, hN]) : A := e p0 p1 p2 p3 p4 p5 p6 p7 p8 p9
end Go.Proofs.Ytgffgbdnbjbmoaa
