/- Part VE of this seat's mirrors: functions of the seat's program, and the plain functions that they are; each theorem bears its own conditions. -/
import Derived.Test.YtmlhokaflhlhbaaTy
import Derived.Test.YtmlhokaflhlhbaaVD
namespace Go.Proofs.Ytmlhokaflhlhbaa
open Go.RowKit
set_option linter.unusedVariables false
set_option linter.unusedSimpArgs false
set_option maxRecDepth 100000
set_option maxHeartbeats 4000000
theorem Qi : ∀ x, G.pures ((eI .u64) x) = true := fun x => by simp [eI, eB, eS, eL, eP, G.pures, G.pure, Z7, Kj]
theorem Zas {O O' : Objs} {n : Nat} (xs : List Int) : Vf O O' n (fl (eI .u64) xs) (fl (eI .u64) xs) := Zca (Z7 Qi xs)
theorem Zap {O O' : Objs} {n : Nat} (xs : List Int) (b b' : List G) : Vf O O' n (fl (eI .u64) xs ++ b) (fl (eI .u64) xs ++ b') = Vf O O' n b b' := Zat b b' _ (Z7 Qi xs)
theorem Gw (xs : List Int) : (fl (eI .u64) xs).length = xs.length * 1 := Qv (f := (eI .u64)) (k := 1) (fun _ => rfl) xs
theorem Gz (xs : List Int) : (fl (eI .u64) xs).all G.one = true := K3 (fun x => by simp [eI, eB, eS, eL, eP, G0, G.one, Value.oneCell']) xs
theorem Zav {O O' : Objs} {n : Nat} (x : Option Int) : wk O O' n (gP (eI .u64) x) (gP (eI .u64) x) = True := Zmd Qi x
theorem U0 {k : Nat} (x : Option Int) : (gP (eI .u64) x).under k = true := Zan Qi k x
theorem Ux {ρ : Nat → Nat} (xs : List Int) : G.rens ρ (fl (eI .u64) xs) = fl (eI .u64) xs := Qw ρ _ (Z7 Qi xs)
theorem Uv {ρ : Nat → Nat} (x : Option Int) : (gP (eI .u64) x).ren ρ = gP (eI .u64) x := Ut ρ _ (Kj Qi x)
theorem Zam {k : Nat} (xs : List Int) : G.unders k (fl (eI .u64) xs) = true := Yr _ _ (Z7 Qi xs)
theorem Xd : ∀ x, G.pures ((eL (eI .u64)) x) = true := fun x => by simp [eI, eB, eS, eL, eP, G.pures, G.pure, Z7, Kj, Qi]
theorem K1 {O O' : Objs} {n : Nat} (xs : List (List Int)) : Vf O O' n (fl (eL (eI .u64)) xs) (fl (eL (eI .u64)) xs) := Zca (Z7 Xd xs)
theorem K0 {O O' : Objs} {n : Nat} (xs : List (List Int)) (b b' : List G) : Vf O O' n (fl (eL (eI .u64)) xs ++ b) (fl (eL (eI .u64)) xs ++ b') = Vf O O' n b b' := Zat b b' _ (Z7 Xd xs)
theorem Kt (xs : List (List Int)) : (fl (eL (eI .u64)) xs).length = xs.length * 1 := Qv (f := (eL (eI .u64))) (k := 1) (fun _ => rfl) xs
theorem Kx (xs : List (List Int)) : (fl (eL (eI .u64)) xs).all G.one = true := K3 (fun x => by simp [eI, eB, eS, eL, eP, G0, G.one, Value.oneCell']) xs
theorem K2 {O O' : Objs} {n : Nat} (x : Option (List Int)) : wk O O' n (gP (eL (eI .u64)) x) (gP (eL (eI .u64)) x) = True := Zmd Xd x
theorem Kb {k : Nat} (x : Option (List Int)) : (gP (eL (eI .u64)) x).under k = true := Zan Xd k x
theorem Ka {ρ : Nat → Nat} (xs : List (List Int)) : G.rens ρ (fl (eL (eI .u64)) xs) = fl (eL (eI .u64)) xs := Qw ρ _ (Z7 Xd xs)
theorem J9 {ρ : Nat → Nat} (x : Option (List Int)) : (gP (eL (eI .u64)) x).ren ρ = gP (eL (eI .u64)) x := Ut ρ _ (Kj Xd x)
theorem Kz {k : Nat} (xs : List (List Int)) : G.unders k (fl (eL (eI .u64)) xs) = true := Yr _ _ (Z7 Xd xs)
def Ze (x : Zj) : List G := [.sl x.segments.length (fl (eL (eI .u64)) x.segments), .val (.int .i64 x.size), .val (.int .i64 x.left)]
theorem Ya : ∀ x, G.pures (Ze x) = true := fun x => by simp [eI, eB, eS, eL, eP, G.pures, G.pure, Z7, Kj, Ze, Qi, Xd]
theorem Qd {O O' : Objs} {n : Nat} (xs : List Zj) : Vf O O' n (fl Ze xs) (fl Ze xs) := Zca (Z7 Ya xs)
theorem Qc {O O' : Objs} {n : Nat} (xs : List Zj) (b b' : List G) : Vf O O' n (fl Ze xs ++ b) (fl Ze xs ++ b') = Vf O O' n b b' := Zat b b' _ (Z7 Ya xs)
theorem X8 (xs : List Zj) : (fl Ze xs).length = xs.length * 3 := Qv (f := Ze) (k := 3) (fun _ => rfl) xs
theorem Qa (xs : List Zj) : (fl Ze xs).all G.one = true := K3 (fun x => by simp [eI, eB, eS, eL, eP, G0, G.one, Value.oneCell', Ze]) xs
theorem Qe {O O' : Objs} {n : Nat} (x : Option Zj) : wk O O' n (gP Ze x) (gP Ze x) = True := Zmd Ya x
theorem X5 {k : Nat} (x : Option Zj) : (gP Ze x).under k = true := Zan Ya k x
theorem X4 {ρ : Nat → Nat} (xs : List Zj) : G.rens ρ (fl Ze xs) = fl Ze xs := Qw ρ _ (Z7 Ya xs)
theorem X3 {ρ : Nat → Nat} (x : Option Zj) : (gP Ze x).ren ρ = gP Ze x := Ut ρ _ (Kj Ya x)
theorem Qb {k : Nat} (xs : List Zj) : G.unders k (fl Ze xs) = true := Yr _ _ (Z7 Ya xs)
def Uj (x : Zx) : List G := [.val (.int .i64 x.Kind), .val (.int .i64 x.Off), .val (.int .i64 x.Data), .val (.int .i64 x.Ptrs), .val (.int .i64 x.Code), .val (.int .i64 x.Count), .val (.int .i64 x.Segment), .val (.bool x.Double)]
theorem Ki : ∀ x, G.pures ((eI .i64) x) = true := fun x => by simp [eI, eB, eS, eL, eP, G.pures, G.pure, Z7, Kj, Qi, Xd, Ya]
theorem Zar {O O' : Objs} {n : Nat} (xs : List Int) : Vf O O' n (fl (eI .i64) xs) (fl (eI .i64) xs) := Zca (Z7 Ki xs)
theorem Zao {O O' : Objs} {n : Nat} (xs : List Int) (b b' : List G) : Vf O O' n (fl (eI .i64) xs ++ b) (fl (eI .i64) xs ++ b') = Vf O O' n b b' := Zat b b' _ (Z7 Ki xs)
theorem Gv (xs : List Int) : (fl (eI .i64) xs).length = xs.length * 1 := Qv (f := (eI .i64)) (k := 1) (fun _ => rfl) xs
theorem Gy (xs : List Int) : (fl (eI .i64) xs).all G.one = true := K3 (fun x => by simp [eI, eB, eS, eL, eP, G0, G.one, Value.oneCell']) xs
theorem Zau {O O' : Objs} {n : Nat} (x : Option Int) : wk O O' n (gP (eI .i64) x) (gP (eI .i64) x) = True := Zmd Ki x
theorem Uz {k : Nat} (x : Option Int) : (gP (eI .i64) x).under k = true := Zan Ki k x
theorem Uw {ρ : Nat → Nat} (xs : List Int) : G.rens ρ (fl (eI .i64) xs) = fl (eI .i64) xs := Qw ρ _ (Z7 Ki xs)
theorem Uu {ρ : Nat → Nat} (x : Option Int) : (gP (eI .i64) x).ren ρ = gP (eI .i64) x := Ut ρ _ (Kj Ki x)
theorem Zal {k : Nat} (xs : List Int) : G.unders k (fl (eI .i64) xs) = true := Yr _ _ (Z7 Ki xs)
def Ui (x : Yb) : List G := [.val (.int .i64 x.P.Kind), .val (.int .i64 x.P.Off), .val (.int .i64 x.P.Data), .val (.int .i64 x.P.Ptrs), .val (.int .i64 x.P.Code), .val (.int .i64 x.P.Count), .val (.int .i64 x.P.Segment), .val (.bool x.P.Double), .val (.int .i64 x.Segment), .val (.int .i64 x.At)]
def J8 (x : Zh) : List G := [(gP Ze x.a), .val (.int .i64 x.kind), .val (.int .i64 x.segment), .val (.int .i64 x.at_), .val (.int .i64 x.words), .val (.int .i64 x.ptrs), .val (.int .i64 x.count), .val (.int .i64 x.code), .val (.int .i64 x.index)]
def Qj (x : Zv) : List G := [.val (.int .i64 x.P.Kind), .val (.int .i64 x.P.Off), .val (.int .i64 x.P.Data), .val (.int .i64 x.P.Ptrs), .val (.int .i64 x.P.Code), .val (.int .i64 x.P.Count), .val (.int .i64 x.P.Segment), .val (.bool x.P.Double), .val (.int .i64 x.Segment), .val (.int .i64 x.At)]
def Qk (x : Zm) : List G := [.val (.int .i64 x.Kind), .val (.int .i64 x.S), .val (.int .i64 x.At), .val (.int .i64 x.Data), .val (.int .i64 x.Ptrs), .val (.int .i64 x.Count), .val (.int .u64 x.N)]
def J7 (x : Zfl) : List G := [.val (.int .i64 x.Depth), .val (.int .i64 x.Weight), .val (.int .i64 x.MaxD), .val (.int .i64 x.MaxOut)]
def Zu (x : Yq) : List G := [.val (.int .i64 x.left)]
theorem Yg : ∀ x, G.pures (Zu x) = true := fun x => by simp [eI, eB, eS, eL, eP, G.pures, G.pure, Z7, Kj, Zu, Qi, Xd, Ya, Ki]
theorem Xu {O O' : Objs} {n : Nat} (xs : List Yq) : Vf O O' n (fl Zu xs) (fl Zu xs) := Zca (Z7 Yg xs)
theorem Xt {O O' : Objs} {n : Nat} (xs : List Yq) (b b' : List G) : Vf O O' n (fl Zu xs ++ b) (fl Zu xs ++ b') = Vf O O' n b b' := Zat b b' _ (Z7 Yg xs)
theorem Xp (xs : List Yq) : (fl Zu xs).length = xs.length * 1 := Qv (f := Zu) (k := 1) (fun _ => rfl) xs
theorem Xq (xs : List Yq) : (fl Zu xs).all G.one = true := K3 (fun x => by simp [eI, eB, eS, eL, eP, G0, G.one, Value.oneCell', Zu]) xs
theorem Xv {O O' : Objs} {n : Nat} (x : Option Yq) : wk O O' n (gP Zu x) (gP Zu x) = True := Zmd Yg x
theorem Xh {k : Nat} (x : Option Yq) : (gP Zu x).under k = true := Zan Yg k x
theorem Xf {ρ : Nat → Nat} (xs : List Yq) : G.rens ρ (fl Zu xs) = fl Zu xs := Qw ρ _ (Z7 Yg xs)
theorem Xe {ρ : Nat → Nat} (x : Option Yq) : (gP Zu x).ren ρ = gP Zu x := Ut ρ _ (Kj Yg x)
theorem Xr {k : Nat} (xs : List Yq) : G.unders k (fl Zu xs) = true := Yr _ _ (Z7 Yg xs)
mutual
def Q7 : Y9 → List G
 | ⟨f0, f1, f2⟩ => [.val (.int .i64 f0), .sl f1.length (fl (eI .u64) f1), .sl f2.length (Q8 f2)]
def Q8 : List Y9 → List G
 | [] => []
 | x :: xs => Q7 x ++ Q8 xs
end
theorem Zbm : ∀ xs, Q8 xs = fl Q7 xs
 | [] => by simp [Q8, fl]
 | x :: xs => by rw [Q8, Js, Zbm xs]
def Z3 (x : Y9) : List G := [.val (.int .i64 x.Kind), .sl x.Words.length (fl (eI .u64) x.Words), .sl x.Kids.length (fl Q7 x.Kids)]
theorem Qg : Q7 = Z3 := by
 funext x
 obtain ⟨_, _, _⟩ := x
 simp only [Q7, Zbm, Z3, List.cons_append, List.nil_append, List.append_nil]
mutual
theorem Zds : ∀ x, G.pures (Q7 x) = true
 | ⟨f0, f1, f2⟩ => by simp [Q7, eP, Kj, eI, eB, eS, eL, G.pures, G.pure, Zet, Z7, Zco f2, Qi, Xd, Ya, Ki, Yg]
theorem Zco : ∀ xs, G.pures (Q8 xs) = true
 | [] => rfl
 | x :: xs => by simp [Q8, Zet, Zds x, Zco xs]
end
theorem X7 : ∀ x, G.pures (Z3 x) = true := fun x => by rw [← Qg]; exact Zds x
theorem Jj {O O' : Objs} {n : Nat} (xs : List Y9) : Vf O O' n (fl Z3 xs) (fl Z3 xs) := Zca (Z7 X7 xs)
theorem Ji {O O' : Objs} {n : Nat} (xs : List Y9) (b b' : List G) : Vf O O' n (fl Z3 xs ++ b) (fl Z3 xs ++ b') = Vf O O' n b b' := Zat b b' _ (Z7 X7 xs)
theorem Ja (xs : List Y9) : (fl Z3 xs).length = xs.length * 3 := Qv (f := Z3) (k := 3) (fun _ => rfl) xs
theorem Je (xs : List Y9) : (fl Z3 xs).all G.one = true := K3 (fun x => by simp [eI, eB, eS, eL, eP, G0, G.one, Value.oneCell', Z3]) xs
theorem Jk {O O' : Objs} {n : Nat} (x : Option Y9) : wk O O' n (gP Z3 x) (gP Z3 x) = True := Zmd X7 x
theorem Q5 {k : Nat} (x : Option Y9) : (gP Z3 x).under k = true := Zan X7 k x
theorem Q4 {ρ : Nat → Nat} (xs : List Y9) : G.rens ρ (fl Z3 xs) = fl Z3 xs := Qw ρ _ (Z7 X7 xs)
theorem Q3 {ρ : Nat → Nat} (x : Option Y9) : (gP Z3 x).ren ρ = gP Z3 x := Ut ρ _ (Kj X7 x)
theorem Jh {k : Nat} (xs : List Y9) : G.unders k (fl Z3 xs) = true := Yr _ _ (Z7 X7 xs)
def Zl (x : Zh) : List G := [(gP Ze x.a), .val (.int .i64 x.kind), .val (.int .i64 x.segment), .val (.int .i64 x.at_), .val (.int .i64 x.words), .val (.int .i64 x.ptrs), .val (.int .i64 x.count), .val (.int .i64 x.code), .val (.int .i64 x.index)]
def Z4 (x : Zx) : List G := [.val (.int .i64 x.Kind), .val (.int .i64 x.Off), .val (.int .i64 x.Data), .val (.int .i64 x.Ptrs), .val (.int .i64 x.Code), .val (.int .i64 x.Count), .val (.int .i64 x.Segment), .val (.bool x.Double)]
def Zy (x : Zm) : List G := [.val (.int .i64 x.Kind), .val (.int .i64 x.S), .val (.int .i64 x.At), .val (.int .i64 x.Data), .val (.int .i64 x.Ptrs), .val (.int .i64 x.Count), .val (.int .u64 x.N)]
def Vi (x : Y9) : List G := [.val (.int .i64 x.Kind), .sl x.Words.length (fl (eI .u64) x.Words), .sl x.Kids.length (fl Z3 x.Kids)]
def J6 (x : Zfl) : List G := [.val (.int .i64 x.Depth), .val (.int .i64 x.Weight), .val (.int .i64 x.MaxD), .val (.int .i64 x.MaxOut)]
end Go.Proofs.Ytmlhokaflhlhbaa
