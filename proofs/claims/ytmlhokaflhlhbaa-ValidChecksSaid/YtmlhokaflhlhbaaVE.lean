/- Part VE of this seat's mirrors: functions of the seat's program, and the plain functions that they are; each theorem bears its own conditions. -/
import Derived.Test.YtmlhokaflhlhbaaTy
import Derived.Test.YtmlhokaflhlhbaaVD
namespace Go.Proofs.Ytmlhokaflhlhbaa
open Go.RowKit
set_option linter.unusedVariables false
set_option linter.unusedSimpArgs false
set_option maxRecDepth 100000
set_option maxHeartbeats 4000000
theorem Q3 : ∀ x, G.pures ((eI .u64) x) = true := fun x => by simp [eI, eB, eS, eL, eP, G.pures, G.pure, Yh, Vh]
theorem Zb2 {O O' : Objs} {n : Nat} (xs : List Int) : Ud O O' n (fl (eI .u64) xs) (fl (eI .u64) xs) := Zdp (Yh Q3 xs)
theorem Zbz {O O' : Objs} {n : Nat} (xs : List Int) (b b' : List G) : Ud O O' n (fl (eI .u64) xs ++ b) (fl (eI .u64) xs ++ b') = Ud O O' n b b' := Zb3 b b' _ (Yh Q3 xs)
theorem Zbf (xs : List Int) : (fl (eI .u64) xs).length = xs.length * 1 := Jn (f := (eI .u64)) (k := 1) (fun _ => rfl) xs
theorem Zbi (xs : List Int) : (fl (eI .u64) xs).all G.one = true := V2 (fun x => by simp [eI, eB, eS, eL, eP, Zbj, G.one, Value.oneCell']) xs
theorem Zb5 {O O' : Objs} {n : Nat} (x : Option Int) : wk O O' n (gP (eI .u64) x) (gP (eI .u64) x) = True := Zn8 Q3 x
theorem Zai {k : Nat} (x : Option Int) : (gP (eI .u64) x).under k = true := Zbx Q3 k x
theorem Zae {ρ : Nat → Nat} (xs : List Int) : G.rens ρ (fl (eI .u64) xs) = fl (eI .u64) xs := Jp ρ _ (Yh Q3 xs)
theorem Zac {ρ : Nat → Nat} (x : Option Int) : (gP (eI .u64) x).ren ρ = gP (eI .u64) x := Zaa ρ _ (Vh Q3 x)
theorem Zbw {k : Nat} (xs : List Int) : G.unders k (fl (eI .u64) xs) = true := Xa _ _ (Yh Q3 xs)
theorem Xy : ∀ x, G.pures ((eL (eI .u64)) x) = true := fun x => by simp [eI, eB, eS, eL, eP, G.pures, G.pure, Yh, Vh, Q3]
theorem Vz {O O' : Objs} {n : Nat} (xs : List (List Int)) : Ud O O' n (fl (eL (eI .u64)) xs) (fl (eL (eI .u64)) xs) := Zdp (Yh Xy xs)
theorem Vy {O O' : Objs} {n : Nat} (xs : List (List Int)) (b b' : List G) : Ud O O' n (fl (eL (eI .u64)) xs ++ b) (fl (eL (eI .u64)) xs ++ b') = Ud O O' n b b' := Zb3 b b' _ (Yh Xy xs)
theorem Vq (xs : List (List Int)) : (fl (eL (eI .u64)) xs).length = xs.length * 1 := Jn (f := (eL (eI .u64))) (k := 1) (fun _ => rfl) xs
theorem Vv (xs : List (List Int)) : (fl (eL (eI .u64)) xs).all G.one = true := V2 (fun x => by simp [eI, eB, eS, eL, eP, Zbj, G.one, Value.oneCell']) xs
theorem V0 {O O' : Objs} {n : Nat} (x : Option (List Int)) : wk O O' n (gP (eL (eI .u64)) x) (gP (eL (eI .u64)) x) = True := Zn8 Xy x
theorem Vb {k : Nat} (x : Option (List Int)) : (gP (eL (eI .u64)) x).under k = true := Zbx Xy k x
theorem Va {ρ : Nat → Nat} (xs : List (List Int)) : G.rens ρ (fl (eL (eI .u64)) xs) = fl (eL (eI .u64)) xs := Jp ρ _ (Yh Xy xs)
theorem K9 {ρ : Nat → Nat} (x : Option (List Int)) : (gP (eL (eI .u64)) x).ren ρ = gP (eL (eI .u64)) x := Zaa ρ _ (Vh Xy x)
theorem Vx {k : Nat} (xs : List (List Int)) : G.unders k (fl (eL (eI .u64)) xs) = true := Xa _ _ (Yh Xy xs)
def Zj (x : Zk) : List G := [.sl x.segments.length (fl (eL (eI .u64)) x.segments), .val (.int .i64 x.size), .val (.int .i64 x.left)]
theorem Ym : ∀ x, G.pures (Zj x) = true := fun x => by simp [eI, eB, eS, eL, eP, G.pures, G.pure, Yh, Vh, Zj, Q3, Xy]
theorem Qz {O O' : Objs} {n : Nat} (xs : List Zk) : Ud O O' n (fl Zj xs) (fl Zj xs) := Zdp (Yh Ym xs)
theorem Qy {O O' : Objs} {n : Nat} (xs : List Zk) (b b' : List G) : Ud O O' n (fl Zj xs ++ b) (fl Zj xs ++ b') = Ud O O' n b b' := Zb3 b b' _ (Yh Ym xs)
theorem Qt (xs : List Zk) : (fl Zj xs).length = xs.length * 3 := Jn (f := Zj) (k := 3) (fun _ => rfl) xs
theorem Qw (xs : List Zk) : (fl Zj xs).all G.one = true := V2 (fun x => by simp [eI, eB, eS, eL, eP, Zbj, G.one, Value.oneCell', Zj]) xs
theorem Q0 {O O' : Objs} {n : Nat} (x : Option Zk) : wk O O' n (gP Zj x) (gP Zj x) = True := Zn8 Ym x
theorem Qn {k : Nat} (x : Option Zk) : (gP Zj x).under k = true := Zbx Ym k x
theorem Ql {ρ : Nat → Nat} (xs : List Zk) : G.rens ρ (fl Zj xs) = fl Zj xs := Jp ρ _ (Yh Ym xs)
theorem Qk {ρ : Nat → Nat} (x : Option Zk) : (gP Zj x).ren ρ = gP Zj x := Zaa ρ _ (Vh Ym x)
theorem Qx {k : Nat} (xs : List Zk) : G.unders k (fl Zj xs) = true := Xa _ _ (Yh Ym xs)
def Gn (x : Z6) : List G := [.val (.int .i64 x.Kind), .val (.int .i64 x.Off), .val (.int .i64 x.Data), .val (.int .i64 x.Ptrs), .val (.int .i64 x.Code), .val (.int .i64 x.Count), .val (.int .i64 x.Segment), .val (.bool x.Double)]
theorem Vg : ∀ x, G.pures ((eI .i64) x) = true := fun x => by simp [eI, eB, eS, eL, eP, G.pures, G.pure, Yh, Vh, Q3, Xy, Ym]
theorem Zb1 {O O' : Objs} {n : Nat} (xs : List Int) : Ud O O' n (fl (eI .i64) xs) (fl (eI .i64) xs) := Zdp (Yh Vg xs)
theorem Zby {O O' : Objs} {n : Nat} (xs : List Int) (b b' : List G) : Ud O O' n (fl (eI .i64) xs ++ b) (fl (eI .i64) xs ++ b') = Ud O O' n b b' := Zb3 b b' _ (Yh Vg xs)
theorem Zbe (xs : List Int) : (fl (eI .i64) xs).length = xs.length * 1 := Jn (f := (eI .i64)) (k := 1) (fun _ => rfl) xs
theorem Zbh (xs : List Int) : (fl (eI .i64) xs).all G.one = true := V2 (fun x => by simp [eI, eB, eS, eL, eP, Zbj, G.one, Value.oneCell']) xs
theorem Zb4 {O O' : Objs} {n : Nat} (x : Option Int) : wk O O' n (gP (eI .i64) x) (gP (eI .i64) x) = True := Zn8 Vg x
theorem Zah {k : Nat} (x : Option Int) : (gP (eI .i64) x).under k = true := Zbx Vg k x
theorem Zad {ρ : Nat → Nat} (xs : List Int) : G.rens ρ (fl (eI .i64) xs) = fl (eI .i64) xs := Jp ρ _ (Yh Vg xs)
theorem Zab {ρ : Nat → Nat} (x : Option Int) : (gP (eI .i64) x).ren ρ = gP (eI .i64) x := Zaa ρ _ (Vh Vg x)
theorem Zbv {k : Nat} (xs : List Int) : G.unders k (fl (eI .i64) xs) = true := Xa _ _ (Yh Vg xs)
def Gm (x : Yn) : List G := [.val (.int .i64 x.P.Kind), .val (.int .i64 x.P.Off), .val (.int .i64 x.P.Data), .val (.int .i64 x.P.Ptrs), .val (.int .i64 x.P.Code), .val (.int .i64 x.P.Count), .val (.int .i64 x.P.Segment), .val (.bool x.P.Double), .val (.int .i64 x.Segment), .val (.int .i64 x.At)]
def K5 (x : Zd) : List G := [(gP Zj x.a), .val (.int .i64 x.kind), .val (.int .i64 x.segment), .val (.int .i64 x.at_), .val (.int .i64 x.words), .val (.int .i64 x.ptrs), .val (.int .i64 x.count), .val (.int .i64 x.code), .val (.int .i64 x.index)]
def Q6 (x : Z4) : List G := [.val (.int .i64 x.P.Kind), .val (.int .i64 x.P.Off), .val (.int .i64 x.P.Data), .val (.int .i64 x.P.Ptrs), .val (.int .i64 x.P.Code), .val (.int .i64 x.P.Count), .val (.int .i64 x.P.Segment), .val (.bool x.P.Double), .val (.int .i64 x.Segment), .val (.int .i64 x.At)]
def Q7 (x : Zm) : List G := [.val (.int .i64 x.Kind), .val (.int .i64 x.S), .val (.int .i64 x.At), .val (.int .i64 x.Data), .val (.int .i64 x.Ptrs), .val (.int .i64 x.Count), .val (.int .u64 x.N)]
def Xv (x : Zy) : List G := [.val (.int .i64 x.Depth), .val (.int .i64 x.Weight), .val (.int .i64 x.MaxD), .val (.int .i64 x.MaxOut)]
def Z3 (x : Ze) : List G := [.val (.int .i64 x.left)]
theorem Yx : ∀ x, G.pures (Z3 x) = true := fun x => by simp [eI, eB, eS, eL, eP, G.pures, G.pure, Yh, Vh, Z3, Q3, Xy, Ym, Vg]
theorem Qb {O O' : Objs} {n : Nat} (xs : List Ze) : Ud O O' n (fl Z3 xs) (fl Z3 xs) := Zdp (Yh Yx xs)
theorem Qa {O O' : Objs} {n : Nat} (xs : List Ze) (b b' : List G) : Ud O O' n (fl Z3 xs ++ b) (fl Z3 xs ++ b') = Ud O O' n b b' := Zb3 b b' _ (Yh Yx xs)
theorem X7 (xs : List Ze) : (fl Z3 xs).length = xs.length * 1 := Jn (f := Z3) (k := 1) (fun _ => rfl) xs
theorem X8 (xs : List Ze) : (fl Z3 xs).all G.one = true := V2 (fun x => by simp [eI, eB, eS, eL, eP, Zbj, G.one, Value.oneCell', Z3]) xs
theorem Qc {O O' : Objs} {n : Nat} (x : Option Ze) : wk O O' n (gP Z3 x) (gP Z3 x) = True := Zn8 Yx x
theorem X2 {k : Nat} (x : Option Ze) : (gP Z3 x).under k = true := Zbx Yx k x
theorem X0 {ρ : Nat → Nat} (xs : List Ze) : G.rens ρ (fl Z3 xs) = fl Z3 xs := Jp ρ _ (Yh Yx xs)
theorem Xz {ρ : Nat → Nat} (x : Option Ze) : (gP Z3 x).ren ρ = gP Z3 x := Zaa ρ _ (Vh Yx x)
theorem X9 {k : Nat} (xs : List Ze) : G.unders k (fl Z3 xs) = true := Xa _ _ (Yh Yx xs)
mutual
def J3 : Zo → List G
 | ⟨f0, f1, f2⟩ => [.val (.int .i64 f0), .sl f1.length (fl (eI .u64) f1), .sl f2.length (J4 f2)]
def J4 : List Zo → List G
 | [] => []
 | x :: xs => J3 x ++ J4 xs
end
theorem Zcz : ∀ xs, J4 xs = fl J3 xs
 | [] => by simp [J4, fl]
 | x :: xs => by rw [J4, Ks, Zcz xs]
def Zu (x : Zo) : List G := [.val (.int .i64 x.Kind), .sl x.Words.length (fl (eI .u64) x.Words), .sl x.Kids.length (fl J3 x.Kids)]
theorem Q1 : J3 = Zu := by
 funext x
 obtain ⟨_, _, _⟩ := x
 simp only [J3, Zcz, Zu, List.cons_append, List.nil_append, List.append_nil]
mutual
theorem Zff : ∀ x, G.pures (J3 x) = true
 | ⟨f0, f1, f2⟩ => by simp [J3, eP, Vh, eI, eB, eS, eL, G.pures, G.pure, Zgi, Yh, Zec f2, Q3, Xy, Ym, Vg, Yx]
theorem Zec : ∀ xs, G.pures (J4 xs) = true
 | [] => rfl
 | x :: xs => by simp [J4, Zgi, Zff x, Zec xs]
end
theorem Qs : ∀ x, G.pures (Zu x) = true := fun x => by rw [← Q1]; exact Zff x
theorem Km {O O' : Objs} {n : Nat} (xs : List Zo) : Ud O O' n (fl Zu xs) (fl Zu xs) := Zdp (Yh Qs xs)
theorem Kl {O O' : Objs} {n : Nat} (xs : List Zo) (b b' : List G) : Ud O O' n (fl Zu xs ++ b) (fl Zu xs ++ b') = Ud O O' n b b' := Zb3 b b' _ (Yh Qs xs)
theorem Ka (xs : List Zo) : (fl Zu xs).length = xs.length * 3 := Jn (f := Zu) (k := 3) (fun _ => rfl) xs
theorem Kg (xs : List Zo) : (fl Zu xs).all G.one = true := V2 (fun x => by simp [eI, eB, eS, eL, eP, Zbj, G.one, Value.oneCell', Zu]) xs
theorem Ko {O O' : Objs} {n : Nat} (x : Option Zo) : wk O O' n (gP Zu x) (gP Zu x) = True := Zn8 Qs x
theorem J0 {k : Nat} (x : Option Zo) : (gP Zu x).under k = true := Zbx Qs k x
theorem Jy {ρ : Nat → Nat} (xs : List Zo) : G.rens ρ (fl Zu xs) = fl Zu xs := Jp ρ _ (Yh Qs xs)
theorem Jx {ρ : Nat → Nat} (x : Option Zo) : (gP Zu x).ren ρ = gP Zu x := Zaa ρ _ (Vh Qs x)
theorem Kj {k : Nat} (xs : List Zo) : G.unders k (fl Zu xs) = true := Xa _ _ (Yh Qs xs)
def Zq (x : Zd) : List G := [(gP Zj x.a), .val (.int .i64 x.kind), .val (.int .i64 x.segment), .val (.int .i64 x.at_), .val (.int .i64 x.words), .val (.int .i64 x.ptrs), .val (.int .i64 x.count), .val (.int .i64 x.code), .val (.int .i64 x.index)]
def Yf (x : Z6) : List G := [.val (.int .i64 x.Kind), .val (.int .i64 x.Off), .val (.int .i64 x.Data), .val (.int .i64 x.Ptrs), .val (.int .i64 x.Code), .val (.int .i64 x.Count), .val (.int .i64 x.Segment), .val (.bool x.Double)]
def Zn (x : Zm) : List G := [.val (.int .i64 x.Kind), .val (.int .i64 x.S), .val (.int .i64 x.At), .val (.int .i64 x.Data), .val (.int .i64 x.Ptrs), .val (.int .i64 x.Count), .val (.int .u64 x.N)]
def Yq (x : Zo) : List G := [.val (.int .i64 x.Kind), .sl x.Words.length (fl (eI .u64) x.Words), .sl x.Kids.length (fl Zu x.Kids)]
def Ye (x : Zy) : List G := [.val (.int .i64 x.Depth), .val (.int .i64 x.Weight), .val (.int .i64 x.MaxD), .val (.int .i64 x.MaxOut)]
end Go.Proofs.Ytmlhokaflhlhbaa
