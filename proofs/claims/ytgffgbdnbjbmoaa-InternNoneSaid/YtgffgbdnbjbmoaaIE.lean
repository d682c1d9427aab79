/- Part IE of this seat's mirrors: functions of the seat's program, and the plain functions that they are; each theorem bears its own conditions. -/
import Derived.Test.YtgffgbdnbjbmoaaTy
import Derived.Test.YtgffgbdnbjbmoaaID
namespace Go.Proofs.Ytgffgbdnbjbmoaa
open Go.RowKit
set_option linter.unusedVariables false
set_option linter.unusedSimpArgs false
set_option maxRecDepth 100000
set_option maxHeartbeats 4000000
theorem Xo : ∀ x, G.pures ((eI .u64) x) = true := fun x => by simp [eI, eB, eS, eL, eP, G.pures, G.pure, Zr, Qh]
theorem Zgn {O O' : Objs} {n : Nat} (xs : List Int) : Km O O' n (fl (eI .u64) xs) (fl (eI .u64) xs) := Uf (Zr Xo xs)
theorem Zgl {O O' : Objs} {n : Nat} (xs : List Int) (b b' : List G) : Km O O' n (fl (eI .u64) xs ++ b) (fl (eI .u64) xs ++ b') = Km O O' n b b' := Vs b b' _ (Zr Xo xs)
theorem Zf3 (xs : List Int) : (fl (eI .u64) xs).length = xs.length * 1 := Qm (f := (eI .u64)) (k := 1) (fun _ => rfl) xs
theorem Zf8 (xs : List Int) : (fl (eI .u64) xs).all G.one = true := Q0 (fun x => by simp [eI, eB, eS, eL, eP, U6, G.one, Value.oneCell']) xs
theorem Zgp {O O' : Objs} {n : Nat} (x : Option Int) : wk O O' n (gP (eI .u64) x) (gP (eI .u64) x) = True := Zfe Xo x
theorem Zeh {k : Nat} (x : Option Int) : (gP (eI .u64) x).under k = true := Vl Xo k x
theorem Zee {ρ : Nat → Nat} (xs : List Int) : G.rens ρ (fl (eI .u64) xs) = fl (eI .u64) xs := X0 ρ _ (Zr Xo xs)
theorem Zec {ρ : Nat → Nat} (x : Option Int) : (gP (eI .u64) x).ren ρ = gP (eI .u64) x := Kl ρ _ (Qh Xo x)
theorem Zgj {k : Nat} (xs : List Int) : G.unders k (fl (eI .u64) xs) = true := Yl _ _ (Zr Xo xs)
theorem Yw : ∀ x, G.pures ((eL (eI .u64)) x) = true := fun x => by simp [eI, eB, eS, eL, eP, G.pures, G.pure, Zr, Qh, Xo]
theorem Zb6 {O O' : Objs} {n : Nat} (xs : List (List Int)) : Km O O' n (fl (eL (eI .u64)) xs) (fl (eL (eI .u64)) xs) := Uf (Zr Yw xs)
theorem Zb5 {O O' : Objs} {n : Nat} (xs : List (List Int)) (b b' : List G) : Km O O' n (fl (eL (eI .u64)) xs ++ b) (fl (eL (eI .u64)) xs ++ b') = Km O O' n b b' := Vs b b' _ (Zr Yw xs)
theorem Zbx (xs : List (List Int)) : (fl (eL (eI .u64)) xs).length = xs.length * 1 := Qm (f := (eL (eI .u64))) (k := 1) (fun _ => rfl) xs
theorem Zb2 (xs : List (List Int)) : (fl (eL (eI .u64)) xs).all G.one = true := Q0 (fun x => by simp [eI, eB, eS, eL, eP, U6, G.one, Value.oneCell']) xs
theorem Zb7 {O O' : Objs} {n : Nat} (x : Option (List Int)) : wk O O' n (gP (eL (eI .u64)) x) (gP (eL (eI .u64)) x) = True := Zfe Yw x
theorem Zbm {k : Nat} (x : Option (List Int)) : (gP (eL (eI .u64)) x).under k = true := Vl Yw k x
theorem Zbf {ρ : Nat → Nat} (xs : List (List Int)) : G.rens ρ (fl (eL (eI .u64)) xs) = fl (eL (eI .u64)) xs := X0 ρ _ (Zr Yw xs)
theorem Zbe {ρ : Nat → Nat} (x : Option (List Int)) : (gP (eL (eI .u64)) x).ren ρ = gP (eL (eI .u64)) x := Kl ρ _ (Qh Yw x)
theorem Zb4 {k : Nat} (xs : List (List Int)) : G.unders k (fl (eL (eI .u64)) xs) = true := Yl _ _ (Zr Yw xs)
def Zg (x : Zf) : List G := [.sl x.segments.length (fl (eL (eI .u64)) x.segments), .val (.int .i64 x.size), .val (.int .i64 x.left)]
theorem Z5 : ∀ x, G.pures (Zg x) = true := fun x => by simp [eI, eB, eS, eL, eP, G.pures, G.pure, Zr, Qh, Zg, Xo, Yw]
theorem V9 {O O' : Objs} {n : Nat} (xs : List Zf) : Km O O' n (fl Zg xs) (fl Zg xs) := Uf (Zr Z5 xs)
theorem V8 {O O' : Objs} {n : Nat} (xs : List Zf) (b b' : List G) : Km O O' n (fl Zg xs ++ b) (fl Zg xs ++ b') = Km O O' n b b' := Vs b b' _ (Zr Z5 xs)
theorem V2 (xs : List Zf) : (fl Zg xs).length = xs.length * 3 := Qm (f := Zg) (k := 3) (fun _ => rfl) xs
theorem V6 (xs : List Zf) : (fl Zg xs).all G.one = true := Q0 (fun x => by simp [eI, eB, eS, eL, eP, U6, G.one, Value.oneCell', Zg]) xs
theorem Ua {O O' : Objs} {n : Nat} (x : Option Zf) : wk O O' n (gP Zg x) (gP Zg x) = True := Zfe Z5 x
theorem Vm {k : Nat} (x : Option Zf) : (gP Zg x).under k = true := Vl Z5 k x
theorem Vh {ρ : Nat → Nat} (xs : List Zf) : G.rens ρ (fl Zg xs) = fl Zg xs := X0 ρ _ (Zr Z5 xs)
theorem Vg {ρ : Nat → Nat} (x : Option Zf) : (gP Zg x).ren ρ = gP Zg x := Kl ρ _ (Qh Z5 x)
theorem V7 {k : Nat} (xs : List Zf) : G.unders k (fl Zg xs) = true := Yl _ _ (Zr Z5 xs)
def Zdo (x : Yg) : List G := [.val (.int .i64 x.Kind), .val (.int .i64 x.Off), .val (.int .i64 x.Data), .val (.int .i64 x.Ptrs), .val (.int .i64 x.Code), .val (.int .i64 x.Count), .val (.int .i64 x.Segment), .val (.bool x.Double)]
theorem Qw : ∀ x, G.pures ((eI .i64) x) = true := fun x => by simp [eI, eB, eS, eL, eP, G.pures, G.pure, Zr, Qh, Xo, Yw, Z5]
theorem Zgm {O O' : Objs} {n : Nat} (xs : List Int) : Km O O' n (fl (eI .i64) xs) (fl (eI .i64) xs) := Uf (Zr Qw xs)
theorem Zgk {O O' : Objs} {n : Nat} (xs : List Int) (b b' : List G) : Km O O' n (fl (eI .i64) xs ++ b) (fl (eI .i64) xs ++ b') = Km O O' n b b' := Vs b b' _ (Zr Qw xs)
theorem Zf2 (xs : List Int) : (fl (eI .i64) xs).length = xs.length * 1 := Qm (f := (eI .i64)) (k := 1) (fun _ => rfl) xs
theorem Zf7 (xs : List Int) : (fl (eI .i64) xs).all G.one = true := Q0 (fun x => by simp [eI, eB, eS, eL, eP, U6, G.one, Value.oneCell']) xs
theorem Zgo {O O' : Objs} {n : Nat} (x : Option Int) : wk O O' n (gP (eI .i64) x) (gP (eI .i64) x) = True := Zfe Qw x
theorem Zeg {k : Nat} (x : Option Int) : (gP (eI .i64) x).under k = true := Vl Qw k x
theorem Zed {ρ : Nat → Nat} (xs : List Int) : G.rens ρ (fl (eI .i64) xs) = fl (eI .i64) xs := X0 ρ _ (Zr Qw xs)
theorem Zeb {ρ : Nat → Nat} (x : Option Int) : (gP (eI .i64) x).ren ρ = gP (eI .i64) x := Kl ρ _ (Qh Qw x)
theorem Zgi {k : Nat} (xs : List Int) : G.unders k (fl (eI .i64) xs) = true := Yl _ _ (Zr Qw xs)
def Zdn (x : Yv) : List G := [.val (.int .i64 x.P.Kind), .val (.int .i64 x.P.Off), .val (.int .i64 x.P.Data), .val (.int .i64 x.P.Ptrs), .val (.int .i64 x.P.Code), .val (.int .i64 x.P.Count), .val (.int .i64 x.P.Segment), .val (.bool x.P.Double), .val (.int .i64 x.Segment), .val (.int .i64 x.At)]
def Za4 (x : Za) : List G := [(gP Zg x.a), .val (.int .i64 x.kind), .val (.int .i64 x.segment), .val (.int .i64 x.at_), .val (.int .i64 x.words), .val (.int .i64 x.ptrs), .val (.int .i64 x.count), .val (.int .i64 x.code), .val (.int .i64 x.index)]
def Zs (x : Zk) : List G := [.val (.int .u64 x.sum), .val (.int .i64 x.left)]
theorem Z8 : ∀ x, G.pures (Zs x) = true := fun x => by simp [eI, eB, eS, eL, eP, G.pures, G.pure, Zr, Qh, Zs, Xo, Yw, Z5, Qw]
theorem Vp {O O' : Objs} {n : Nat} (xs : List Zk) : Km O O' n (fl Zs xs) (fl Zs xs) := Uf (Zr Z8 xs)
theorem Vn {O O' : Objs} {n : Nat} (xs : List Zk) (b b' : List G) : Km O O' n (fl Zs xs ++ b) (fl Zs xs ++ b') = Km O O' n b b' := Vs b b' _ (Zr Z8 xs)
theorem K7 (xs : List Zk) : (fl Zs xs).length = xs.length * 2 := Qm (f := Zs) (k := 2) (fun _ => rfl) xs
theorem Ve (xs : List Zk) : (fl Zs xs).all G.one = true := Q0 (fun x => by simp [eI, eB, eS, eL, eP, U6, G.one, Value.oneCell', Zs]) xs
theorem Vt {O O' : Objs} {n : Nat} (x : Option Zk) : wk O O' n (gP Zs x) (gP Zs x) = True := Zfe Z8 x
theorem Kx {k : Nat} (x : Option Zk) : (gP Zs x).under k = true := Vl Z8 k x
theorem Ku {ρ : Nat → Nat} (xs : List Zk) : G.rens ρ (fl Zs xs) = fl Zs xs := X0 ρ _ (Zr Z8 xs)
theorem Ks {ρ : Nat → Nat} (x : Option Zk) : (gP Zs x).ren ρ = gP Zs x := Kl ρ _ (Qh Z8 x)
theorem Vj {k : Nat} (xs : List Zk) : G.unders k (fl Zs xs) = true := Yl _ _ (Zr Z8 xs)
def Zb (x : Zd) : List G := [.val (.int .u64 x.hash), (gP Zg x.r.a), .val (.int .i64 x.r.kind), .val (.int .i64 x.r.segment), .val (.int .i64 x.r.at_), .val (.int .i64 x.r.words), .val (.int .i64 x.r.ptrs), .val (.int .i64 x.r.count), .val (.int .i64 x.r.code), .val (.int .i64 x.r.index)]
def Zm (x : Zj) : List G := [.sl x.classes.length (fl Zb x.classes), .sl x.places.length (fl (eI .i64) x.places)]
theorem Z9 : ∀ x, G.pures (Zb x) = true := fun x => by simp [eI, eB, eS, eL, eP, G.pures, G.pure, Zr, Qh, Zb, Xo, Yw, Z5, Qw, Z8]
theorem K0 {O O' : Objs} {n : Nat} (xs : List Zd) : Km O O' n (fl Zb xs) (fl Zb xs) := Uf (Zr Z9 xs)
theorem Kz {O O' : Objs} {n : Nat} (xs : List Zd) (b b' : List G) : Km O O' n (fl Zb xs ++ b) (fl Zb xs ++ b') = Km O O' n b b' := Vs b b' _ (Zr Z9 xs)
theorem Kp (xs : List Zd) : (fl Zb xs).length = xs.length * 10 := Qm (f := Zb) (k := 10) (fun _ => rfl) xs
theorem Kr (xs : List Zd) : (fl Zb xs).all G.one = true := Q0 (fun x => by first | (simp [eI, eB, eS, eL, eP, U6, G.one, Value.oneCell', Zb]; done) | (simp only [List.all_cons, List.all_nil, U6, Bool.true_and, Bool.and_true, Zb] <;> rfl)) xs
theorem K1 {O O' : Objs} {n : Nat} (x : Option Zd) : wk O O' n (gP Zb x) (gP Zb x) = True := Zfe Z9 x
theorem Ke {k : Nat} (x : Option Zd) : (gP Zb x).under k = true := Vl Z9 k x
theorem Kb {ρ : Nat → Nat} (xs : List Zd) : G.rens ρ (fl Zb xs) = fl Zb xs := X0 ρ _ (Zr Z9 xs)
theorem Ka {ρ : Nat → Nat} (x : Option Zd) : (gP Zb x).ren ρ = gP Zb x := Kl ρ _ (Qh Z9 x)
theorem Kw {k : Nat} (xs : List Zd) : G.unders k (fl Zb xs) = true := Yl _ _ (Zr Z9 xs)
theorem Yh : ∀ x, G.pures (Zm x) = true := fun x => by simp [eI, eB, eS, eL, eP, G.pures, G.pure, Zr, Qh, Zm, Xo, Yw, Z5, Qw, Z8, Z9]
theorem Vq {O O' : Objs} {n : Nat} (xs : List Zj) : Km O O' n (fl Zm xs) (fl Zm xs) := Uf (Zr Yh xs)
theorem Vo {O O' : Objs} {n : Nat} (xs : List Zj) (b b' : List G) : Km O O' n (fl Zm xs ++ b) (fl Zm xs ++ b') = Km O O' n b b' := Vs b b' _ (Zr Yh xs)
theorem K8 (xs : List Zj) : (fl Zm xs).length = xs.length * 2 := Qm (f := Zm) (k := 2) (fun _ => rfl) xs
theorem Vf (xs : List Zj) : (fl Zm xs).all G.one = true := Q0 (fun x => by simp [eI, eB, eS, eL, eP, U6, G.one, Value.oneCell', Zm]) xs
theorem Vu {O O' : Objs} {n : Nat} (x : Option Zj) : wk O O' n (gP Zm x) (gP Zm x) = True := Zfe Yh x
theorem Ky {k : Nat} (x : Option Zj) : (gP Zm x).under k = true := Vl Yh k x
theorem Kv {ρ : Nat → Nat} (xs : List Zj) : G.rens ρ (fl Zm xs) = fl Zm xs := X0 ρ _ (Zr Yh xs)
theorem Kt {ρ : Nat → Nat} (x : Option Zj) : (gP Zm x).ren ρ = gP Zm x := Kl ρ _ (Qh Yh x)
theorem Vk {k : Nat} (xs : List Zj) : G.unders k (fl Zm xs) = true := Yl _ _ (Zr Yh xs)
def Zp (x : Ze) : List G := [.val (.int .i64 x.left)]
theorem Yf : ∀ x, G.pures (Zp x) = true := fun x => by simp [eI, eB, eS, eL, eP, G.pures, G.pure, Zr, Qh, Zp, Xo, Yw, Z5, Qw, Z8, Z9, Yh]
theorem Kg {O O' : Objs} {n : Nat} (xs : List Ze) : Km O O' n (fl Zp xs) (fl Zp xs) := Uf (Zr Yf xs)
theorem Kf {O O' : Objs} {n : Nat} (xs : List Ze) (b b' : List G) : Km O O' n (fl Zp xs ++ b) (fl Zp xs ++ b') = Km O O' n b b' := Vs b b' _ (Zr Yf xs)
theorem J3 (xs : List Ze) : (fl Zp xs).length = xs.length * 1 := Qm (f := Zp) (k := 1) (fun _ => rfl) xs
theorem J9 (xs : List Ze) : (fl Zp xs).all G.one = true := Q0 (fun x => by simp [eI, eB, eS, eL, eP, U6, G.one, Value.oneCell', Zp]) xs
theorem Kh {O O' : Objs} {n : Nat} (x : Option Ze) : wk O O' n (gP Zp x) (gP Zp x) = True := Zfe Yf x
theorem Jv {k : Nat} (x : Option Ze) : (gP Zp x).under k = true := Vl Yf k x
theorem Js {ρ : Nat → Nat} (xs : List Ze) : G.rens ρ (fl Zp xs) = fl Zp xs := X0 ρ _ (Zr Yf xs)
theorem Jr {ρ : Nat → Nat} (x : Option Ze) : (gP Zp x).ren ρ = gP Zp x := Kl ρ _ (Qh Yf x)
theorem Kc {k : Nat} (xs : List Ze) : G.unders k (fl Zp xs) = true := Yl _ _ (Zr Yf xs)
mutual
def Jd : Xf → List G
 | ⟨f0, f1, f2⟩ => [.val (.int .i64 f0), .sl f1.length (fl (eI .u64) f1), .sl f2.length (Je f2)]
def Je : List Xf → List G
 | [] => []
 | x :: xs => Jd x ++ Je xs
end
theorem Zca : ∀ xs, Je xs = fl Jd xs
 | [] => by simp [Je, fl]
 | x :: xs => by rw [Je, Vw, Zca xs]
def Z4 (x : Xf) : List G := [.val (.int .i64 x.Kind), .sl x.Words.length (fl (eI .u64) x.Words), .sl x.Kids.length (fl Jd x.Kids)]
theorem Jo : Jd = Z4 := by
 funext x
 obtain ⟨_, _, _⟩ := x
 simp only [Jd, Zca, Z4, List.cons_append, List.nil_append, List.append_nil]
mutual
theorem Zea : ∀ x, G.pures (Jd x) = true
 | ⟨f0, f1, f2⟩ => by simp [Jd, eP, Qh, eI, eB, eS, eL, G.pures, G.pure, Zev, Zr, Zdc f2, Xo, Yw, Z5, Qw, Z8, Z9, Yh, Yf]
theorem Zdc : ∀ xs, G.pures (Je xs) = true
 | [] => rfl
 | x :: xs => by simp [Je, Zev, Zea x, Zdc xs]
end
theorem X3 : ∀ x, G.pures (Z4 x) = true := fun x => by rw [← Jo]; exact Zea x
theorem G3 {O O' : Objs} {n : Nat} (xs : List Xf) : Km O O' n (fl Z4 xs) (fl Z4 xs) := Uf (Zr X3 xs)
theorem Gz {O O' : Objs} {n : Nat} (xs : List Xf) (b b' : List G) : Km O O' n (fl Z4 xs ++ b) (fl Z4 xs ++ b') = Km O O' n b b' := Vs b b' _ (Zr X3 xs)
theorem Gp (xs : List Xf) : (fl Z4 xs).length = xs.length * 3 := Qm (f := Z4) (k := 3) (fun _ => rfl) xs
theorem Gs (xs : List Xf) : (fl Z4 xs).all G.one = true := Q0 (fun x => by simp [eI, eB, eS, eL, eP, U6, G.one, Value.oneCell', Z4]) xs
theorem G5 {O O' : Objs} {n : Nat} (x : Option Xf) : wk O O' n (gP Z4 x) (gP Z4 x) = True := Zfe X3 x
theorem Gf {k : Nat} (x : Option Xf) : (gP Z4 x).under k = true := Vl X3 k x
theorem Ga {ρ : Nat → Nat} (xs : List Xf) : G.rens ρ (fl Z4 xs) = fl Z4 xs := X0 ρ _ (Zr X3 xs)
theorem U8 {ρ : Nat → Nat} (x : Option Xf) : (gP Z4 x).ren ρ = gP Z4 x := Kl ρ _ (Qh X3 x)
theorem Gx {k : Nat} (xs : List Xf) : G.unders k (fl Z4 xs) = true := Yl _ _ (Zr X3 xs)
def Za3 (x : Vv) : List G := [.val (.int .i64 x.Depth), .val (.int .i64 x.Weight), .val (.int .i64 x.MaxD), .val (.int .i64 x.MaxOut)]
def Uh (x : Zhg) : List G := [.val (.int .i64 x.P.Kind), .val (.int .i64 x.P.Off), .val (.int .i64 x.P.Data), .val (.int .i64 x.P.Ptrs), .val (.int .i64 x.P.Code), .val (.int .i64 x.P.Count), .val (.int .i64 x.P.Segment), .val (.bool x.P.Double), .val (.int .i64 x.Segment), .val (.int .i64 x.At)]
def Ui (x : Zb8) : List G := [.val (.int .i64 x.Kind), .val (.int .i64 x.S), .val (.int .i64 x.At), .val (.int .i64 x.Data), .val (.int .i64 x.Ptrs), .val (.int .i64 x.Count), .val (.int .u64 x.N)]
theorem Qr : ∀ x, G.pures ((eL (eL (eI .u64))) x) = true := fun x => by simp [eI, eB, eS, eL, eP, G.pures, G.pure, Zr, Qh, Xo, Yw, Z5, Qw, Z8, Z9, Yh, Yf, X3, Jo]
theorem G0 {O O' : Objs} {n : Nat} (xs : List (List (List Int))) : Km O O' n (fl (eL (eL (eI .u64))) xs) (fl (eL (eL (eI .u64))) xs) := Uf (Zr Qr xs)
theorem Gy {O O' : Objs} {n : Nat} (xs : List (List (List Int))) (b b' : List G) : Km O O' n (fl (eL (eL (eI .u64))) xs ++ b) (fl (eL (eL (eI .u64))) xs ++ b') = Km O O' n b b' := Vs b b' _ (Zr Qr xs)
theorem Gn (xs : List (List (List Int))) : (fl (eL (eL (eI .u64))) xs).length = xs.length * 1 := Qm (f := (eL (eL (eI .u64)))) (k := 1) (fun _ => rfl) xs
theorem Gr (xs : List (List (List Int))) : (fl (eL (eL (eI .u64))) xs).all G.one = true := Q0 (fun x => by simp [eI, eB, eS, eL, eP, U6, G.one, Value.oneCell']) xs
theorem G4 {O O' : Objs} {n : Nat} (x : Option (List (List Int))) : wk O O' n (gP (eL (eL (eI .u64))) x) (gP (eL (eL (eI .u64))) x) = True := Zfe Qr x
theorem Ge {k : Nat} (x : Option (List (List Int))) : (gP (eL (eL (eI .u64))) x).under k = true := Vl Qr k x
theorem U9 {ρ : Nat → Nat} (xs : List (List (List Int))) : G.rens ρ (fl (eL (eL (eI .u64))) xs) = fl (eL (eL (eI .u64))) xs := X0 ρ _ (Zr Qr xs)
theorem U7 {ρ : Nat → Nat} (x : Option (List (List Int))) : (gP (eL (eL (eI .u64))) x).ren ρ = gP (eL (eL (eI .u64))) x := Kl ρ _ (Qh Qr x)
theorem Gw {k : Nat} (xs : List (List (List Int))) : G.unders k (fl (eL (eL (eI .u64))) xs) = true := Yl _ _ (Zr Qr xs)
def Z3 (x : Zd) : List G := [.val (.int .u64 x.hash), (gP Zg x.r.a), .val (.int .i64 x.r.kind), .val (.int .i64 x.r.segment), .val (.int .i64 x.r.at_), .val (.int .i64 x.r.words), .val (.int .i64 x.r.ptrs), .val (.int .i64 x.r.count), .val (.int .i64 x.r.code), .val (.int .i64 x.r.index)]
def Zc (x : Za) : List G := [(gP Zg x.a), .val (.int .i64 x.kind), .val (.int .i64 x.segment), .val (.int .i64 x.at_), .val (.int .i64 x.words), .val (.int .i64 x.ptrs), .val (.int .i64 x.count), .val (.int .i64 x.code), .val (.int .i64 x.index)]
def X2 (x : Yg) : List G := [.val (.int .i64 x.Kind), .val (.int .i64 x.Off), .val (.int .i64 x.Data), .val (.int .i64 x.Ptrs), .val (.int .i64 x.Code), .val (.int .i64 x.Count), .val (.int .i64 x.Segment), .val (.bool x.Double)]
def Ug (x : Zb8) : List G := [.val (.int .i64 x.Kind), .val (.int .i64 x.S), .val (.int .i64 x.At), .val (.int .i64 x.Data), .val (.int .i64 x.Ptrs), .val (.int .i64 x.Count), .val (.int .u64 x.N)]
def Zct (x : Xf) : List G := [.val (.int .i64 x.Kind), .sl x.Words.length (fl (eI .u64) x.Words), .sl x.Kids.length (fl Z4 x.Kids)]
def Za1 (x : Vv) : List G := [.val (.int .i64 x.Depth), .val (.int .i64 x.Weight), .val (.int .i64 x.MaxD), .val (.int .i64 x.MaxOut)]
abbrev vI (x : Int) : G := .val (.int .i64 x)
abbrev vB (x : Bool) : G := .val (.bool x)
abbrev nV : G := .val (.slice none 0 0)
abbrev sL {α : Type} (e : α → List G) (x : List α) : G := .sl x.length (fl e x)
abbrev oR {α : Type} (t s : Nat) (e : α → List G) (x : List α) : GObj := ⟨true, t, s, x.length, fl e x⟩
theorem zFn {f : FuncId} {gs : List G} {O O2 : Objs} {n n2 : Nat} {r : G} {fn : Func} {c : Code} (hc : ∀ args w, (callFunc f args).run Try.prog w = .ok (.enter f args) w) (hf : Try.prog.funcs[f]? = some fn) (h : Und O n → O n = none → (∀ k, O (n + k) = none) → W Try.prog n c (Fin Xi fn.results.toList r n O2 n2) ⟨fn.ntmps, [], Zfs 0 gs⟩ (Zn O n []) n) (hb : fn.body = some c := by exact rfl) (hn : gs.length ≤ fn.ntmps := by exact Nat.le_of_ble_eq_true rfl) (h2 : n ≤ n2 := by first | exact Nat.le_refl _ | omega) : GTo Try.prog f gs O n r O2 n2 := Zgw Zy hc hf hb hn h2 fun hU => h hU (hU.fresh _ (Nat.le_refl _)) fun k => hU.fresh _ (Nat.le_add_right _ _)
structure Hid (p : Prop) : Prop where
 get : p
structure Ar {α : Type} (a : α) : Prop where
def Ar.v {α : Type} {a : α} (_ : Ar a) : α := a
theorem zQ {A B : Prop} (l0 : List Nat) (b : B) (e : Ar l0 → Hid B → A := by intro x0 bZ; refine G9 x0.v (Zx Zy [] ?_); simp only [push_cast, seval, ↓reduceIte, Zi, Ar.v, hN0, hN]; exact bZ.get) : A := e ⟨⟩ ⟨b⟩
theorem zW {A B : Prop} (b : B) (e : Hid B → A := by intro bZ; refine Zzb ?_; (try simp only [Xs, Yy]); exact bZ.get) : A := e ⟨b⟩
theorem zK {A B : Prop} (b : B) (e : Hid B → A := by intro bZ; refine Zu4 ?_; (try simp only [Xs, Yy]); exact bZ.get) : A := e ⟨b⟩
theorem zSe {A : Prop} (e : A := by simp only [push_cast, seval, ↓reduceIte, Zi, hN0, hN]) : A := e
theorem zQd {A B : Prop} (l0 : List Nat) (l1 : List Nat) (l2 : List Bool) (b : B) (e : Ar l0 → Ar l1 → Ar l2 → Hid B → A := by intro x0 x1 x2 bZ; refine G9 x0.v (Zx Zy [] ?_); simp only [push_cast, seval, ↓reduceIte, Zi, Ar.v, hN0, hN]; refine Zhh x1.v x2.v ?_; simp only [push_cast, seval, ↓reduceIte, Ar.v]; exact bZ.get) : A := e ⟨⟩ ⟨⟩ ⟨⟩ ⟨b⟩
theorem K4 {A B : Prop} (l0 : List Nat) (l1 : List Bool) (b : B) (e : Ar l0 → Ar l1 → Hid B → A := by intro x0 x1 bZ; refine Zu4 ?_; (try simp only [Xs, Yy]); refine Zhh x0.v x1.v ?_; simp only [push_cast, seval, ↓reduceIte, Ar.v]; exact bZ.get) : A := e ⟨⟩ ⟨⟩ ⟨b⟩
theorem zF3 {A B : Prop} {P0 : Prop} (p0 : P0) {P1 : Prop} (p1 : P1) {P2 : Prop} (p2 : P2) (b : B) (e : P0 → P1 → P2 → Hid B → A := by intro x0 x1 x2 bZ; simp only [push_cast, Nat.reduceAdd, Nat.reduceSub, Nat.reduceMul, Nat.reduceLeDiff, Nat.reduceLT, Nat.reduceEqDiff, ↓reduceIte, reduceCtorEq, Int.reduceBEq, Int.reduceBNe, Nat.reduceBEq, Int.reduceLE, Int.reduceLT, Int.reduceEq, Int.reduceNe, Int.reduceNeg, Nat.reduceDiv, Nat.reduceMod, Nat.reducePow, Zi, x0, x1, x2, hN0, hN]; exact bZ.get) : A := e p0 p1 p2 ⟨b⟩
theorem Z2m {A B : Prop} (l0 : List (Option Bool)) {P1 : Prop} (p1 : P1) {P2 : Prop} (p2 : P2) {P3 : Prop} (p3 : P3) {P4 : Prop} (p4 : P4) (b : B) (e : Ar l0 → P1 → P2 → P3 → P4 → Hid B → A := by intro x0 x1 x2 x3 x4 bZ; refine Zx Zy x0.v ?_; simp only [push_cast, Nat.reduceAdd, Nat.reduceSub, Nat.reduceMul, Nat.reduceLeDiff, Nat.reduceLT, Nat.reduceEqDiff, ↓reduceIte, reduceCtorEq, Int.reduceBEq, Int.reduceBNe, Nat.reduceBEq, Int.reduceLE, Int.reduceLT, Int.reduceEq, Int.reduceNe, Int.reduceNeg, Nat.reduceDiv, Nat.reduceMod, Nat.reducePow, Zi, Ar.v, x1, x2, x3, x4, hN0, hN]; exact bZ.get) : A := e ⟨⟩ p1 p2 p3 p4 ⟨b⟩
theorem zF4 {A B : Prop} {P0 : Prop} (p0 : P0) {P1 : Prop} (p1 : P1) {P2 : Prop} (p2 : P2) {P3 : Prop} (p3 : P3) (b : B) (e : P0 → P1 → P2 → P3 → Hid B → A := by intro x0 x1 x2 x3 bZ; simp only [push_cast, Nat.reduceAdd, Nat.reduceSub, Nat.reduceMul, Nat.reduceLeDiff, Nat.reduceLT, Nat.reduceEqDiff, ↓reduceIte, reduceCtorEq, Int.reduceBEq, Int.reduceBNe, Nat.reduceBEq, Int.reduceLE, Int.reduceLT, Int.reduceEq, Int.reduceNe, Int.reduceNeg, Nat.reduceDiv, Nat.reduceMod, Nat.reducePow, Zi, x0, x1, x2, x3, hN0, hN]; exact bZ.get) : A := e p0 p1 p2 p3 ⟨b⟩
theorem zD {A B : Prop} (l0 : List Nat) (l1 : List Bool) (b : B) (e : Ar l0 → Ar l1 → Hid B → A := by intro x0 x1 bZ; refine Zhh x0.v x1.v ?_; simp only [push_cast, seval, ↓reduceIte, Ar.v]; exact bZ.get) : A := e ⟨⟩ ⟨⟩ ⟨b⟩
theorem zR {A B : Prop} (b : B) (e : Hid B → A := by intro bZ; refine Zx Zy [] ?_; simp only [push_cast, seval, ↓reduceIte, Zi, hN0, hN]; exact bZ.get) : A := e ⟨b⟩
theorem zEn {A : Prop} {P0 : Prop} (p0 : P0) (e : P0 → A := by intro x0; have h9 := Option.some.inj x0; subst h9; refine And.intro rfl (Fit2.of (X7 hU rfl rfl ?_) (by omega)); simp only [push_cast, seval, ↓reduceIte, Zi, hN0, hN]) : A := e p0
theorem zEx {A : Prop} {P0 : Prop} (p0 : P0) (e : P0 → A := by intro x0; refine Zu3 ?_; (try simp only [Xs, Yy, ↓reduceIte, Nat.reduceEqDiff]); have h9 := Option.some.inj x0; subst h9; refine And.intro (fun h => by cases h) (And.intro rfl (Fit2.of (X7 hU rfl rfl ?_) (by omega))); simp only [push_cast, seval, ↓reduceIte, Zi, hN0, hN]) : A := e p0
theorem Yi {A : Prop} (l0 : List G) (e : Ar l0 → A := by intro x0; refine Zzb ?_; (try simp only [Xs, Yy]); have h := Option.some.inj h; subst h; refine Ztn (.inr rfl) hU x0.v (by omega) ?_; simp only [push_cast, seval, ↓reduceIte, Zi, Ar.v, hN0, hN]) : A := e ⟨⟩
theorem zCd {A B : Prop} {P0 : Prop} (p0 : P0) (l1 : List Nat) (l2 : List Bool) (b : B) (e : P0 → Ar l1 → Ar l2 → Hid B → A := by intro x0 x1 x2 bZ; refine Zx Zy [] ?_; simp only [push_cast, seval, ↓reduceIte, Zi, hN0, hN]; refine x0.then ?_; simp only [push_cast, seval, ↓reduceIte, Zi, hN0, hN]; refine Zhh x1.v x2.v ?_; simp only [push_cast, seval, ↓reduceIte, Ar.v]; exact bZ.get) : A := e p0 ⟨⟩ ⟨⟩ ⟨b⟩
theorem Z2k {A B : Prop} (l0 : List Nat) {P1 : Prop} (p1 : P1) (b : B) (e : Ar l0 → P1 → Hid B → A := by intro x0 x1 bZ; refine G9 x0.v (Zx Zy [] ?_); simp only [push_cast, seval, ↓reduceIte, Zi, Ar.v, x1, hN0, hN]; exact bZ.get) : A := e ⟨⟩ p1 ⟨b⟩
theorem Zcr {A B : Prop} (l0 : List (Option Bool)) {P1 : Prop} (p1 : P1) (b : B) (e : Ar l0 → P1 → Hid B → A := by intro x0 x1 bZ; refine Zx Zy x0.v ?_; simp only [push_cast, seval, ↓reduceIte, Zi, Ar.v, x1, hN0, hN]; exact bZ.get) : A := e ⟨⟩ p1 ⟨b⟩
theorem zX1 {A B : Prop} {P0 : Prop} (p0 : P0) (b : B) (e : P0 → Hid B → A := by intro x0 bZ; simp only [push_cast, seval, ↓reduceIte, Zi, x0, hN0, hN]; exact bZ.get) : A := e p0 ⟨b⟩
theorem Zcq {A : Prop} {P0 : Prop} (p0 : P0) {P1 : Prop} (p1 : P1) (e : P0 → P1 → A := by intro x0 x1; have h9 := Option.some.inj x0; subst h9; refine And.intro rfl (Fit2.of (X7 hU rfl rfl ?_) (by omega)); simp only [push_cast, seval, ↓reduceIte, Zi, x1, hN0, hN]) : A := e p0 p1
theorem Zt6 {A B : Prop} (l0 : List (Option Bool)) {P1 : Prop} (p1 : P1) {P2 : Prop} (p2 : P2) {P3 : Prop} (p3 : P3) {P4 : Prop} (p4 : P4) (b : B) (e : Ar l0 → P1 → P2 → P3 → P4 → Hid B → A := by intro x0 x1 x2 x3 x4 bZ; refine Zx Zy x0.v ?_; simp only [push_cast, seval, ↓reduceIte, Zi, Ar.v, x1, x2, x3, x4, hN0, hN]; exact bZ.get) : A := e ⟨⟩ p1 p2 p3 p4 ⟨b⟩
theorem zG {A B : Prop} (b : B) (e : Hid B → A := by intro bZ; (repeat (with_reducible refine And.intro (by first | (intro h0; simp only [h0, and_self]; done) | (intro h0; simp only [h0, Bool.not_false, Bool.not_true, Bool.true_and, Bool.and_true, true_and, and_true, and_self, imp_self, implies_true, bne_iff_ne, ne_eq, beq_iff_eq]; done) | (intros; simp_all; done) | exact True.intro) ?_)); exact bZ.get) : A := e ⟨b⟩
theorem zX4 {A B : Prop} {P0 : Prop} (p0 : P0) {P1 : Prop} (p1 : P1) {P2 : Prop} (p2 : P2) {P3 : Prop} (p3 : P3) (b : B) (e : P0 → P1 → P2 → P3 → Hid B → A := by intro x0 x1 x2 x3 bZ; simp only [push_cast, seval, ↓reduceIte, Zi, x0, x1, x2, x3, hN0, hN]; exact bZ.get) : A := e p0 p1 p2 p3 ⟨b⟩
theorem Zt5 {A : Prop} {P0 : Prop} (p0 : P0) {P1 : Prop} (p1 : P1) {P2 : Prop} (p2 : P2) {P3 : Prop} (p3 : P3) {P4 : Prop} (p4 : P4) (e : P0 → P1 → P2 → P3 → P4 → A := by intro x0 x1 x2 x3 x4; have h9 := Option.some.inj x0; subst h9; refine And.intro rfl (Fit2.of (X7 hU rfl rfl ?_) (by omega)); simp only [push_cast, seval, ↓reduceIte, Zi, x1, x2, x3, x4, hN0, hN]) : A := e p0 p1 p2 p3 p4
theorem Zro {A B : Prop} (l0 : List (Option Bool)) {P1 : Prop} (p1 : P1) {P2 : Prop} (p2 : P2) {P3 : Prop} (p3 : P3) (b : B) (e : Ar l0 → P1 → P2 → P3 → Hid B → A := by intro x0 x1 x2 x3 bZ; refine Zx Zy x0.v ?_; simp only [push_cast, seval, ↓reduceIte, Zi, Ar.v, x1, x2, x3, hN0, hN]; exact bZ.get) : A := e ⟨⟩ p1 p2 p3 ⟨b⟩
theorem zX3 {A B : Prop} {P0 : Prop} (p0 : P0) {P1 : Prop} (p1 : P1) {P2 : Prop} (p2 : P2) (b : B) (e : P0 → P1 → P2 → Hid B → A := by intro x0 x1 x2 bZ; simp only [push_cast, seval, ↓reduceIte, Zi, x0, x1, x2, hN0, hN]; exact bZ.get) : A := e p0 p1 p2 ⟨b⟩
theorem Zzv {A : Prop} {P0 : Prop} (p0 : P0) {P1 : Prop} (p1 : P1) {P2 : Prop} (p2 : P2) {P3 : Prop} (p3 : P3) (e : P0 → P1 → P2 → P3 → A := by intro x0 x1 x2 x3; have h9 := Option.some.inj x0; subst h9; refine And.intro rfl (Fit2.of (X7 hU rfl rfl ?_) (by omega)); simp only [push_cast, seval, ↓reduceIte, Zi, x1, x2, x3, hN0, hN]) : A := e p0 p1 p2 p3
theorem X4 {A B : Prop} (l0 : List (Option Bool)) {P1 : Prop} (p1 : P1) {P2 : Prop} (p2 : P2) (b : B) (e : Ar l0 → P1 → P2 → Hid B → A := by intro x0 x1 x2 bZ; refine Zx Zy x0.v ?_; simp only [push_cast, seval, ↓reduceIte, Zi, Ar.v, x1, x2, hN0, hN]; exact bZ.get) : A := e ⟨⟩ p1 p2 ⟨b⟩
theorem zX2 {A B : Prop} {P0 : Prop} (p0 : P0) {P1 : Prop} (p1 : P1) (b : B) (e : P0 → P1 → Hid B → A := by intro x0 x1 bZ; simp only [push_cast, seval, ↓reduceIte, Zi, x0, x1, hN0, hN]; exact bZ.get) : A := e p0 p1 ⟨b⟩
theorem Zt4 {A : Prop} {P0 : Prop} (p0 : P0) {P1 : Prop} (p1 : P1) {P2 : Prop} (p2 : P2) (e : P0 → P1 → P2 → A := by intro x0 x1 x2; have h9 := Option.some.inj x0; subst h9; refine And.intro rfl (Fit2.of (X7 hU rfl rfl ?_) (by omega)); simp only [push_cast, seval, ↓reduceIte, Zi, x1, x2, hN0, hN]) : A := e p0 p1 p2
theorem zF7 {A B : Prop} {P0 : Prop} (p0 : P0) {P1 : Prop} (p1 : P1) {P2 : Prop} (p2 : P2) {P3 : Prop} (p3 : P3) {P4 : Prop} (p4 : P4) {P5 : Prop} (p5 : P5) {P6 : Prop} (p6 : P6) (b : B) (e : P0 → P1 → P2 → P3 → P4 → P5 → P6 → Hid B → A := by intro x0 x1 x2 x3 x4 x5 x6 bZ; simp only [push_cast, Nat.reduceAdd, Nat.reduceSub, Nat.reduceMul, Nat.reduceLeDiff, Nat.reduceLT, Nat.reduceEqDiff, ↓reduceIte, reduceCtorEq, Int.reduceBEq, Int.reduceBNe, Nat.reduceBEq, Int.reduceLE, Int.reduceLT, Int.reduceEq, Int.reduceNe, Int.reduceNeg, Nat.reduceDiv, Nat.reduceMod, Nat.reducePow, Zi, x0, x1, x2, x3, x4, x5, x6, hN0, hN]; exact bZ.get) : A := e p0 p1 p2 p3 p4 p5 p6 ⟨b⟩
theorem zC {A B : Prop} {P0 : Prop} (p0 : P0) (b : B) (e : P0 → Hid B → A := by intro x0 bZ; refine Zx Zy [] ?_; simp only [push_cast, seval, ↓reduceIte, Zi, hN0, hN]; refine x0.then ?_; simp only [push_cast, seval, ↓reduceIte, Zi, hN0, hN]; exact bZ.get) : A := e p0 ⟨b⟩
theorem zTs {A B : Prop} {P0 : Prop} (p0 : P0) (b : B) (e : P0 → Hid B → A := by intro x0 bZ; refine x0.then ?_; simp only [push_cast, seval, ↓reduceIte, Zi, hN0, hN]; exact bZ.get) : A := e p0 ⟨b⟩
theorem Z2o {A B : Prop} (l0 : List (Option Bool)) {P1 : Prop} (p1 : P1) {P2 : Prop} (p2 : P2) {P3 : Prop} (p3 : P3) {P4 : Prop} (p4 : P4) {P5 : Prop} (p5 : P5) {P6 : Prop} (p6 : P6) {P7 : Prop} (p7 : P7) {P8 : Prop} (p8 : P8) (b : B) (e : Ar l0 → P1 → P2 → P3 → P4 → P5 → P6 → P7 → P8 → Hid B → A := by intro x0 x1 x2 x3 x4 x5 x6 x7 x8 bZ; refine Zx Zy x0.v ?_; simp only [push_cast, Nat.reduceAdd, Nat.reduceSub, Nat.reduceMul, Nat.reduceLeDiff, Nat.reduceLT, Nat.reduceEqDiff, ↓reduceIte, reduceCtorEq, Int.reduceBEq, Int.reduceBNe, Nat.reduceBEq, Int.reduceLE, Int.reduceLT, Int.reduceEq, Int.reduceNe, Int.reduceNeg, Nat.reduceDiv, Nat.reduceMod, Nat.reducePow, Zi, Ar.v, x1, x2, x3, x4, x5, x6, x7, x8, hN0, hN]; exact bZ.get) : A := e ⟨⟩ p1 p2 p3 p4 p5 p6 p7 p8 ⟨b⟩
theorem zF8 {A B : Prop} {P0 : Prop} (p0 : P0) {P1 : Prop} (p1 : P1) {P2 : Prop} (p2 : P2) {P3 : Prop} (p3 : P3) {P4 : Prop} (p4 : P4) {P5 : Prop} (p5 : P5) {P6 : Prop} (p6 : P6) {P7 : Prop} (p7 : P7) (b : B) (e : P0 → P1 → P2 → P3 → P4 → P5 → P6 → P7 → Hid B → A := by intro x0 x1 x2 x3 x4 x5 x6 x7 bZ; simp only [push_cast, Nat.reduceAdd, Nat.reduceSub, Nat.reduceMul, Nat.reduceLeDiff, Nat.reduceLT, Nat.reduceEqDiff, ↓reduceIte, reduceCtorEq, Int.reduceBEq, Int.reduceBNe, Nat.reduceBEq, Int.reduceLE, Int.reduceLT, Int.reduceEq, Int.reduceNe, Int.reduceNeg, Nat.reduceDiv, Nat.reduceMod, Nat.reducePow, Zi, x0, x1, x2, x3, x4, x5, x6, x7, hN0, hN]; exact bZ.get) : A := e p0 p1 p2 p3 p4 p5 p6 p7 ⟨b⟩
theorem zQD {A B : Prop} (l0 : List Nat) (l1 : List (Option Bool)) (b : B) (e : Ar l0 → Ar l1 → Hid B → A := by intro x0 x1 bZ; refine G9 x0.v (Zx Zy x1.v ?_); simp only [push_cast, seval, ↓reduceIte, Zi, Ar.v, hN0, hN]; (repeat (with_reducible refine And.intro (by first | (intro h0; simp only [h0, and_self]; done) | (intro h0; simp only [h0, Bool.not_false, Bool.not_true, Bool.true_and, Bool.and_true, true_and, and_true, and_self, imp_self, implies_true, bne_iff_ne, ne_eq, beq_iff_eq]; done) | (intros; simp_all; done) | exact True.intro) ?_)); exact bZ.get) : A := e ⟨⟩ ⟨⟩ ⟨b⟩
theorem zS {A B : Prop} (b : B) (e : Hid B → A := by intro bZ; simp only [push_cast, seval, ↓reduceIte, Zi, hN0, hN]; exact bZ.get) : A := e ⟨b⟩
theorem zRd {A B : Prop} (l0 : List Nat) (l1 : List Bool) (b : B) (e : Ar l0 → Ar l1 → Hid B → A := by intro x0 x1 bZ; refine Zx Zy [] ?_; simp only [push_cast, seval, ↓reduceIte, Zi, hN0, hN]; refine Zhh x0.v x1.v ?_; simp only [push_cast, seval, ↓reduceIte, Ar.v]; exact bZ.get) : A := e ⟨⟩ ⟨⟩ ⟨b⟩
theorem zF6 {A B : Prop} {P0 : Prop} (p0 : P0) {P1 : Prop} (p1 : P1) {P2 : Prop} (p2 : P2) {P3 : Prop} (p3 : P3) {P4 : Prop} (p4 : P4) {P5 : Prop} (p5 : P5) (b : B) (e : P0 → P1 → P2 → P3 → P4 → P5 → Hid B → A := by intro x0 x1 x2 x3 x4 x5 bZ; simp only [push_cast, Nat.reduceAdd, Nat.reduceSub, Nat.reduceMul, Nat.reduceLeDiff, Nat.reduceLT, Nat.reduceEqDiff, ↓reduceIte, reduceCtorEq, Int.reduceBEq, Int.reduceBNe, Nat.reduceBEq, Int.reduceLE, Int.reduceLT, Int.reduceEq, Int.reduceNe, Int.reduceNeg, Nat.reduceDiv, Nat.reduceMod, Nat.reducePow, Zi, x0, x1, x2, x3, x4, x5, hN0, hN]; exact bZ.get) : A := e p0 p1 p2 p3 p4 p5 ⟨b⟩
theorem Z2j {A : Prop} {P0 : Prop} (p0 : P0) {P1 : Prop} (p1 : P1) {P2 : Prop} (p2 : P2) {P3 : Prop} (p3 : P3) {P4 : Prop} (p4 : P4) {P5 : Prop} (p5 : P5) (e : P0 → P1 → P2 → P3 → P4 → P5 → A := by intro x0 x1 x2 x3 x4 x5; refine And.intro rfl (Fit2.of (X7 hU rfl rfl ?_) (by omega)); simp only [push_cast, Nat.reduceAdd, Nat.reduceSub, Nat.reduceMul, Nat.reduceLeDiff, Nat.reduceLT, Nat.reduceEqDiff, ↓reduceIte, reduceCtorEq, Int.reduceBEq, Int.reduceBNe, Nat.reduceBEq, Int.reduceLE, Int.reduceLT, Int.reduceEq, Int.reduceNe, Int.reduceNeg, Nat.reduceDiv, Nat.reduceMod, Nat.reducePow, Zi, x0, x1, x2, x3, x4, x5, hN0, hN]) : A := e p0 p1 p2 p3 p4 p5
theorem Z34 {A : Prop} {P0 : Prop} (p0 : P0) {P1 : Prop} (p1 : P1) {P2 : Prop} (p2 : P2) {P3 : Prop} (p3 : P3) {P4 : Prop} (p4 : P4) {P5 : Prop} (p5 : P5) (e : P0 → P1 → P2 → P3 → P4 → P5 → A := by intro x0 x1 x2 x3 x4 x5; simp only [push_cast, Nat.reduceAdd, Nat.reduceSub, Nat.reduceMul, Nat.reduceLeDiff, Nat.reduceLT, Nat.reduceEqDiff, ↓reduceIte, reduceCtorEq, Int.reduceBEq, Int.reduceBNe, Nat.reduceBEq, Int.reduceLE, Int.reduceLT, Int.reduceEq, Int.reduceNe, Int.reduceNeg, Nat.reduceDiv, Nat.reduceMod, Nat.reducePow, Zi, x0, x1, x2, x3, x4, x5, hN0, hN]) : A := e p0 p1 p2 p3 p4 p5
theorem zO {A B : Prop} (b : B) (e : Hid B → A := by intro bZ; (repeat (with_reducible refine And.intro (by first | omega | exact Zhi rfl | exact Zff | exact Zua rfl | exact Zqa rfl rfl | exact Zjo rfl | exact Zp9 rfl) ?_)); exact bZ.get) : A := e ⟨b⟩
theorem zDs {A B : Prop} (l0 : List Nat) (l1 : List Bool) (b : B) (e : Ar l0 → Ar l1 → Hid B → A := by intro x0 x1 bZ; refine Zhh x0.v x1.v ?_; simp only [push_cast, seval, ↓reduceIte, Ar.v]; refine Zh ?_; exact bZ.get) : A := e ⟨⟩ ⟨⟩ ⟨b⟩
theorem zEy {A : Prop} {P0 : Prop} (p0 : P0) (e : P0 → A := by intro x0; have h9 := Option.some.inj x0; subst h9; refine And.intro (fun h => by cases h) (And.intro rfl (Fit2.of (X7 hU rfl rfl ?_) (by omega))); simp only [push_cast, seval, ↓reduceIte, Zi, hN0, hN]) : A := e p0
theorem Zza {A : Prop} (l0 : List G) (e : Ar l0 → A := by intro x0; have h := Option.some.inj h; subst h; refine Ztn (.inr rfl) hU x0.v (by omega) ?_; simp only [push_cast, seval, ↓reduceIte, Zi, Ar.v, hN0, hN]) : A := e ⟨⟩
theorem Yq {A : Prop} {P0 : Prop} (p0 : P0) {P1 : Prop} (p1 : P1) (e : P0 → P1 → A := by intro x0 x1; simp only [push_cast, seval, ↓reduceIte, Zi, x0, x1, hN0, hN]) : A := e p0 p1
theorem X5 {A B : Prop} (l0 : List Nat) {P1 : Prop} (p1 : P1) {P2 : Prop} (p2 : P2) (b : B) (e : Ar l0 → P1 → P2 → Hid B → A := by intro x0 x1 x2 bZ; refine G9 x0.v (Zx Zy [] ?_); simp only [push_cast, seval, ↓reduceIte, Zi, Ar.v, x1, x2, hN0, hN]; exact bZ.get) : A := e ⟨⟩ p1 p2 ⟨b⟩
theorem zXt {A B : Prop} (b : B) (e : Hid B → A := by intro bZ; refine Zu3 ?_; (try simp only [Xs, Yy, ↓reduceIte, Nat.reduceEqDiff]); exact bZ.get) : A := e ⟨b⟩
theorem Zzw {A B : Prop} (l0 : List (Option Bool)) {P1 : Prop} (p1 : P1) {P2 : Prop} (p2 : P2) {P3 : Prop} (p3 : P3) {P4 : Prop} (p4 : P4) {P5 : Prop} (p5 : P5) (b : B) (e : Ar l0 → P1 → P2 → P3 → P4 → P5 → Hid B → A := by intro x0 x1 x2 x3 x4 x5 bZ; refine Zx Zy x0.v ?_; simp only [push_cast, Nat.reduceAdd, Nat.reduceSub, Nat.reduceMul, Nat.reduceLeDiff, Nat.reduceLT, Nat.reduceEqDiff, ↓reduceIte, reduceCtorEq, Int.reduceBEq, Int.reduceBNe, Nat.reduceBEq, Int.reduceLE, Int.reduceLT, Int.reduceEq, Int.reduceNe, Int.reduceNeg, Nat.reduceDiv, Nat.reduceMod, Nat.reducePow, Zi, Ar.v, x1, x2, x3, x4, x5, hN0, hN]; exact bZ.get) : A := e ⟨⟩ p1 p2 p3 p4 p5 ⟨b⟩
theorem zF5 {A B : Prop} {P0 : Prop} (p0 : P0) {P1 : Prop} (p1 : P1) {P2 : Prop} (p2 : P2) {P3 : Prop} (p3 : P3) {P4 : Prop} (p4 : P4) (b : B) (e : P0 → P1 → P2 → P3 → P4 → Hid B → A := by intro x0 x1 x2 x3 x4 bZ; simp only [push_cast, Nat.reduceAdd, Nat.reduceSub, Nat.reduceMul, Nat.reduceLeDiff, Nat.reduceLT, Nat.reduceEqDiff, ↓reduceIte, reduceCtorEq, Int.reduceBEq, Int.reduceBNe, Nat.reduceBEq, Int.reduceLE, Int.reduceLT, Int.reduceEq, Int.reduceNe, Int.reduceNeg, Nat.reduceDiv, Nat.reduceMod, Nat.reducePow, Zi, x0, x1, x2, x3, x4, hN0, hN]; exact bZ.get) : A := e p0 p1 p2 p3 p4 ⟨b⟩
theorem Z2n {A B : Prop} (l0 : List (Option Bool)) {P1 : Prop} (p1 : P1) {P2 : Prop} (p2 : P2) {P3 : Prop} (p3 : P3) {P4 : Prop} (p4 : P4) {P5 : Prop} (p5 : P5) {P6 : Prop} (p6 : P6) (b : B) (e : Ar l0 → P1 → P2 → P3 → P4 → P5 → P6 → Hid B → A := by intro x0 x1 x2 x3 x4 x5 x6 bZ; refine Zx Zy x0.v ?_; simp only [push_cast, Nat.reduceAdd, Nat.reduceSub, Nat.reduceMul, Nat.reduceLeDiff, Nat.reduceLT, Nat.reduceEqDiff, ↓reduceIte, reduceCtorEq, Int.reduceBEq, Int.reduceBNe, Nat.reduceBEq, Int.reduceLE, Int.reduceLT, Int.reduceEq, Int.reduceNe, Int.reduceNeg, Nat.reduceDiv, Nat.reduceMod, Nat.reducePow, Zi, Ar.v, x1, x2, x3, x4, x5, x6, hN0, hN]; exact bZ.get) : A := e ⟨⟩ p1 p2 p3 p4 p5 p6 ⟨b⟩
theorem Z0y {A : Prop} {P0 : Prop} (p0 : P0) {P1 : Prop} (p1 : P1) {P2 : Prop} (p2 : P2) (e : P0 → P1 → P2 → A := by intro x0 x1 x2; simp only [push_cast, seval, ↓reduceIte, Zi, x0, x1, x2, hN0, hN]) : A := e p0 p1 p2
theorem zX5 {A B : Prop} {P0 : Prop} (p0 : P0) {P1 : Prop} (p1 : P1) {P2 : Prop} (p2 : P2) {P3 : Prop} (p3 : P3) {P4 : Prop} (p4 : P4) (b : B) (e : P0 → P1 → P2 → P3 → P4 → Hid B → A := by intro x0 x1 x2 x3 x4 bZ; simp only [push_cast, seval, ↓reduceIte, Zi, x0, x1, x2, x3, x4, hN0, hN]; exact bZ.get) : A := e p0 p1 p2 p3 p4 ⟨b⟩
theorem Z0z {A : Prop} {P0 : Prop} (p0 : P0) {P1 : Prop} (p1 : P1) {P2 : Prop} (p2 : P2) {P3 : Prop} (p3 : P3) {P4 : Prop} (p4 : P4) (e : P0 → P1 → P2 → P3 → P4 → A := by intro x0 x1 x2 x3 x4; simp only [push_cast, seval, ↓reduceIte, Zi, x0, x1, x2, x3, x4, hN0, hN]) : A := e p0 p1 p2 p3 p4
theorem zRo {A B : Prop} (l0 : List (Option Bool)) (b : B) (e : Ar l0 → Hid B → A := by intro x0 bZ; refine Zx Zy x0.v ?_; simp only [push_cast, seval, ↓reduceIte, Zi, Ar.v, hN0, hN]; exact bZ.get) : A := e ⟨⟩ ⟨b⟩
theorem Z2l {A B : Prop} (l0 : List (Option Bool)) {P1 : Prop} (p1 : P1) {P2 : Prop} (p2 : P2) {P3 : Prop} (p3 : P3) (b : B) (e : Ar l0 → P1 → P2 → P3 → Hid B → A := by intro x0 x1 x2 x3 bZ; refine Zx Zy x0.v ?_; simp only [push_cast, Nat.reduceAdd, Nat.reduceSub, Nat.reduceMul, Nat.reduceLeDiff, Nat.reduceLT, Nat.reduceEqDiff, ↓reduceIte, reduceCtorEq, Int.reduceBEq, Int.reduceBNe, Nat.reduceBEq, Int.reduceLE, Int.reduceLT, Int.reduceEq, Int.reduceNe, Int.reduceNeg, Nat.reduceDiv, Nat.reduceMod, Nat.reducePow, Zi, Ar.v, x1, x2, x3, hN0, hN]; exact bZ.get) : A := e ⟨⟩ p1 p2 p3 ⟨b⟩
theorem Zzx {A B : Prop} (l0 : List (Option Bool)) {P1 : Prop} (p1 : P1) {P2 : Prop} (p2 : P2) {P3 : Prop} (p3 : P3) {P4 : Prop} (p4 : P4) {P5 : Prop} (p5 : P5) (b : B) (e : Ar l0 → P1 → P2 → P3 → P4 → P5 → Hid B → A := by intro x0 x1 x2 x3 x4 x5 bZ; refine Zx Zy x0.v ?_; simp only [push_cast, seval, ↓reduceIte, Zi, Ar.v, x1, x2, x3, x4, x5, hN0, hN]; exact bZ.get) : A := e ⟨⟩ p1 p2 p3 p4 p5 ⟨b⟩
theorem Z2p {A : Prop} {P0 : Prop} (p0 : P0) {P1 : Prop} (p1 : P1) {P2 : Prop} (p2 : P2) {P3 : Prop} (p3 : P3) (e : P0 → P1 → P2 → P3 → A := by intro x0 x1 x2 x3; simp only [push_cast, seval, ↓reduceIte, Zi, x0, x1, x2, x3, hN0, hN]) : A := e p0 p1 p2 p3
end Go.Proofs.Ytgffgbdnbjbmoaa
