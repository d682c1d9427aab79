/- Part RE of this seat's mirrors: functions of the seat's program, and the plain functions that they are; each theorem bears its own conditions. -/
import Derived.Test.YtgijkjifiekkmaaTy
import Derived.Test.YtgijkjifiekkmaaRD
namespace Go.Proofs.Ytgijkjifiekkmaa
open Go.RowKit
set_option linter.unusedVariables false
set_option linter.unusedSimpArgs false
set_option maxRecDepth 100000
set_option maxHeartbeats 4000000
theorem Qi : ∀ x, G.pures ((eI .u8) x) = true := fun x => by simp [eI, eB, eS, eL, eP, G.pures, G.pure, Ye, Jj]
theorem Zeb {O O' : Objs} {n : Nat} (xs : List Int) : Q6 O O' n (fl (eI .u8) xs) (fl (eI .u8) xs) := U3 (Ye Qi xs)
theorem Zea {O O' : Objs} {n : Nat} (xs : List Int) (b b' : List G) : Q6 O O' n (fl (eI .u8) xs ++ b) (fl (eI .u8) xs ++ b') = Q6 O O' n b b' := Vf b b' _ (Ye Qi xs)
theorem Zdj (xs : List Int) : (fl (eI .u8) xs).length = xs.length * 1 := Xg (f := (eI .u8)) (k := 1) (fun _ => rfl) xs
theorem Zdm (xs : List Int) : (fl (eI .u8) xs).all G.one = true := Jm (fun x => by simp [eI, eB, eS, eL, eP, Gj, G.one, Value.oneCell']) xs
theorem Zec {O O' : Objs} {n : Nat} (x : Option Int) : wk O O' n (gP (eI .u8) x) (gP (eI .u8) x) = True := Zkh Qi x
theorem Zch {k : Nat} (x : Option Int) : (gP (eI .u8) x).under k = true := Vd Qi k x
theorem Zb8 {ρ : Nat → Nat} (xs : List Int) : G.rens ρ (fl (eI .u8) xs) = fl (eI .u8) xs := X3 ρ _ (Ye Qi xs)
theorem Zb6 {ρ : Nat → Nat} (x : Option Int) : (gP (eI .u8) x).ren ρ = gP (eI .u8) x := Ko ρ _ (Jj Qi x)
theorem Zd8 {k : Nat} (xs : List Int) : G.unders k (fl (eI .u8) xs) = true := Yl _ _ (Ye Qi xs)
theorem Qd : ∀ x, G.pures ((eI .i64) x) = true := fun x => by simp [eI, eB, eS, eL, eP, G.pures, G.pure, Ye, Jj, Qi]
theorem Zcm {O O' : Objs} {n : Nat} (xs : List Int) : Q6 O O' n (fl (eI .i64) xs) (fl (eI .i64) xs) := U3 (Ye Qd xs)
theorem Zcj {O O' : Objs} {n : Nat} (xs : List Int) (b b' : List G) : Q6 O O' n (fl (eI .i64) xs ++ b) (fl (eI .i64) xs ++ b') = Q6 O O' n b b' := Vf b b' _ (Ye Qd xs)
theorem Zbr (xs : List Int) : (fl (eI .i64) xs).length = xs.length * 1 := Xg (f := (eI .i64)) (k := 1) (fun _ => rfl) xs
theorem Zbx (xs : List Int) : (fl (eI .i64) xs).all G.one = true := Jm (fun x => by simp [eI, eB, eS, eL, eP, Gj, G.one, Value.oneCell']) xs
theorem Zco {O O' : Objs} {n : Nat} (x : Option Int) : wk O O' n (gP (eI .i64) x) (gP (eI .i64) x) = True := Zkh Qd x
theorem Zao {k : Nat} (x : Option Int) : (gP (eI .i64) x).under k = true := Vd Qd k x
theorem Zal {ρ : Nat → Nat} (xs : List Int) : G.rens ρ (fl (eI .i64) xs) = fl (eI .i64) xs := X3 ρ _ (Ye Qd xs)
theorem Zaj {ρ : Nat → Nat} (x : Option Int) : (gP (eI .i64) x).ren ρ = gP (eI .i64) x := Ko ρ _ (Jj Qd x)
theorem Zcd {k : Nat} (xs : List Int) : G.unders k (fl (eI .i64) xs) = true := Yl _ _ (Ye Qd xs)
theorem Qq : ∀ x, G.pures ((eI .u64) x) = true := fun x => by simp [eI, eB, eS, eL, eP, G.pures, G.pure, Ye, Jj, Qi, Qd]
theorem Zcn {O O' : Objs} {n : Nat} (xs : List Int) : Q6 O O' n (fl (eI .u64) xs) (fl (eI .u64) xs) := U3 (Ye Qq xs)
theorem Zck {O O' : Objs} {n : Nat} (xs : List Int) (b b' : List G) : Q6 O O' n (fl (eI .u64) xs ++ b) (fl (eI .u64) xs ++ b') = Q6 O O' n b b' := Vf b b' _ (Ye Qq xs)
theorem Zbs (xs : List Int) : (fl (eI .u64) xs).length = xs.length * 1 := Xg (f := (eI .u64)) (k := 1) (fun _ => rfl) xs
theorem Zby (xs : List Int) : (fl (eI .u64) xs).all G.one = true := Jm (fun x => by simp [eI, eB, eS, eL, eP, Gj, G.one, Value.oneCell']) xs
theorem Zcp {O O' : Objs} {n : Nat} (x : Option Int) : wk O O' n (gP (eI .u64) x) (gP (eI .u64) x) = True := Zkh Qq x
theorem Zap {k : Nat} (x : Option Int) : (gP (eI .u64) x).under k = true := Vd Qq k x
theorem Zam {ρ : Nat → Nat} (xs : List Int) : G.rens ρ (fl (eI .u64) xs) = fl (eI .u64) xs := X3 ρ _ (Ye Qq xs)
theorem Zak {ρ : Nat → Nat} (x : Option Int) : (gP (eI .u64) x).ren ρ = gP (eI .u64) x := Ko ρ _ (Jj Qq x)
theorem Zce {k : Nat} (xs : List Int) : G.unders k (fl (eI .u64) xs) = true := Yl _ _ (Ye Qq xs)
theorem Xx : ∀ x, G.pures ((eL (eI .u64)) x) = true := fun x => by simp [eI, eB, eS, eL, eP, G.pures, G.pure, Ye, Jj, Qi, Qd, Qq]
theorem V0 {O O' : Objs} {n : Nat} (xs : List (List Int)) : Q6 O O' n (fl (eL (eI .u64)) xs) (fl (eL (eI .u64)) xs) := U3 (Ye Xx xs)
theorem Vz {O O' : Objs} {n : Nat} (xs : List (List Int)) (b b' : List G) : Q6 O O' n (fl (eL (eI .u64)) xs ++ b) (fl (eL (eI .u64)) xs ++ b') = Q6 O O' n b b' := Vf b b' _ (Ye Xx xs)
theorem Vv (xs : List (List Int)) : (fl (eL (eI .u64)) xs).length = xs.length * 1 := Xg (f := (eL (eI .u64))) (k := 1) (fun _ => rfl) xs
theorem Vx (xs : List (List Int)) : (fl (eL (eI .u64)) xs).all G.one = true := Jm (fun x => by simp [eI, eB, eS, eL, eP, Gj, G.one, Value.oneCell']) xs
theorem V1 {O O' : Objs} {n : Nat} (x : Option (List Int)) : wk O O' n (gP (eL (eI .u64)) x) (gP (eL (eI .u64)) x) = True := Zkh Xx x
theorem Ve {k : Nat} (x : Option (List Int)) : (gP (eL (eI .u64)) x).under k = true := Vd Xx k x
theorem Vb {ρ : Nat → Nat} (xs : List (List Int)) : G.rens ρ (fl (eL (eI .u64)) xs) = fl (eL (eI .u64)) xs := X3 ρ _ (Ye Xx xs)
theorem Va {ρ : Nat → Nat} (x : Option (List Int)) : (gP (eL (eI .u64)) x).ren ρ = gP (eL (eI .u64)) x := Ko ρ _ (Jj Xx x)
theorem Vy {k : Nat} (xs : List (List Int)) : G.unders k (fl (eL (eI .u64)) xs) = true := Yl _ _ (Ye Xx xs)
end Go.Proofs.Ytgijkjifiekkmaa
