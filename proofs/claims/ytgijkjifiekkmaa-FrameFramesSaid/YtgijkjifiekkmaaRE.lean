/- Part RE of this seat's mirrors: functions of the seat's program, and the plain functions that they are; each theorem bears its own conditions. -/
import Derived.Test.YtgijkjifiekkmaaTy
import Derived.Test.YtgijkjifiekkmaaRD
namespace Go.Proofs.Ytgijkjifiekkmaa
open Go.RowKit
set_option linter.unusedVariables false
set_option linter.unusedSimpArgs false
set_option maxRecDepth 100000
set_option maxHeartbeats 4000000
theorem Ql : ∀ x, G.pures ((eI .u8) x) = true := fun x => by simp [eI, eB, eS, eL, eP, G.pures, G.pure, Z8, Jj]
theorem Zec {O O' : Objs} {n : Nat} (xs : List Int) : Q7 O O' n (fl (eI .u8) xs) (fl (eI .u8) xs) := Ge (Z8 Ql xs)
theorem Zeb {O O' : Objs} {n : Nat} (xs : List Int) (b b' : List G) : Q7 O O' n (fl (eI .u8) xs ++ b) (fl (eI .u8) xs ++ b') = Q7 O O' n b b' := Vj b b' _ (Z8 Ql xs)
theorem Zdm (xs : List Int) : (fl (eI .u8) xs).length = xs.length * 1 := Xg (f := (eI .u8)) (k := 1) (fun _ => rfl) xs
theorem Zdp (xs : List Int) : (fl (eI .u8) xs).all G.one = true := Jn (fun x => by simp [eI, eB, eS, eL, eP, Gu, G.one, Value.oneCell']) xs
theorem Zed {O O' : Objs} {n : Nat} (x : Option Int) : wk O O' n (gP (eI .u8) x) (gP (eI .u8) x) = True := Zkj Ql x
theorem Zcj {k : Nat} (x : Option Int) : (gP (eI .u8) x).under k = true := Vh Ql k x
theorem Zb9 {ρ : Nat → Nat} (xs : List Int) : G.rens ρ (fl (eI .u8) xs) = fl (eI .u8) xs := X3 ρ _ (Z8 Ql xs)
theorem Zb7 {ρ : Nat → Nat} (x : Option Int) : (gP (eI .u8) x).ren ρ = gP (eI .u8) x := Ko ρ _ (Jj Ql x)
theorem Zd9 {k : Nat} (xs : List Int) : G.unders k (fl (eI .u8) xs) = true := Yi _ _ (Z8 Ql xs)
theorem Qf : ∀ x, G.pures ((eI .i64) x) = true := fun x => by simp [eI, eB, eS, eL, eP, G.pures, G.pure, Z8, Jj, Ql]
theorem Zco {O O' : Objs} {n : Nat} (xs : List Int) : Q7 O O' n (fl (eI .i64) xs) (fl (eI .i64) xs) := Ge (Z8 Qf xs)
theorem Zcl {O O' : Objs} {n : Nat} (xs : List Int) (b b' : List G) : Q7 O O' n (fl (eI .i64) xs ++ b) (fl (eI .i64) xs ++ b') = Q7 O O' n b b' := Vj b b' _ (Z8 Qf xs)
theorem Zbt (xs : List Int) : (fl (eI .i64) xs).length = xs.length * 1 := Xg (f := (eI .i64)) (k := 1) (fun _ => rfl) xs
theorem Zby (xs : List Int) : (fl (eI .i64) xs).all G.one = true := Jn (fun x => by simp [eI, eB, eS, eL, eP, Gu, G.one, Value.oneCell']) xs
theorem Zcq {O O' : Objs} {n : Nat} (x : Option Int) : wk O O' n (gP (eI .i64) x) (gP (eI .i64) x) = True := Zkj Qf x
theorem Zaz {k : Nat} (x : Option Int) : (gP (eI .i64) x).under k = true := Vh Qf k x
theorem Zaw {ρ : Nat → Nat} (xs : List Int) : G.rens ρ (fl (eI .i64) xs) = fl (eI .i64) xs := X3 ρ _ (Z8 Qf xs)
theorem Zau {ρ : Nat → Nat} (x : Option Int) : (gP (eI .i64) x).ren ρ = gP (eI .i64) x := Ko ρ _ (Jj Qf x)
theorem Zcf {k : Nat} (xs : List Int) : G.unders k (fl (eI .i64) xs) = true := Yi _ _ (Z8 Qf xs)
theorem Qu : ∀ x, G.pures ((eI .u64) x) = true := fun x => by simp [eI, eB, eS, eL, eP, G.pures, G.pure, Z8, Jj, Ql, Qf]
theorem Zcp {O O' : Objs} {n : Nat} (xs : List Int) : Q7 O O' n (fl (eI .u64) xs) (fl (eI .u64) xs) := Ge (Z8 Qu xs)
theorem Zcm {O O' : Objs} {n : Nat} (xs : List Int) (b b' : List G) : Q7 O O' n (fl (eI .u64) xs ++ b) (fl (eI .u64) xs ++ b') = Q7 O O' n b b' := Vj b b' _ (Z8 Qu xs)
theorem Zbu (xs : List Int) : (fl (eI .u64) xs).length = xs.length * 1 := Xg (f := (eI .u64)) (k := 1) (fun _ => rfl) xs
theorem Zbz (xs : List Int) : (fl (eI .u64) xs).all G.one = true := Jn (fun x => by simp [eI, eB, eS, eL, eP, Gu, G.one, Value.oneCell']) xs
theorem Zcr {O O' : Objs} {n : Nat} (x : Option Int) : wk O O' n (gP (eI .u64) x) (gP (eI .u64) x) = True := Zkj Qu x
theorem Za0 {k : Nat} (x : Option Int) : (gP (eI .u64) x).under k = true := Vh Qu k x
theorem Zax {ρ : Nat → Nat} (xs : List Int) : G.rens ρ (fl (eI .u64) xs) = fl (eI .u64) xs := X3 ρ _ (Z8 Qu xs)
theorem Zav {ρ : Nat → Nat} (x : Option Int) : (gP (eI .u64) x).ren ρ = gP (eI .u64) x := Ko ρ _ (Jj Qu x)
theorem Zcg {k : Nat} (xs : List Int) : G.unders k (fl (eI .u64) xs) = true := Yi _ _ (Z8 Qu xs)
theorem Xx : ∀ x, G.pures ((eL (eI .u64)) x) = true := fun x => by simp [eI, eB, eS, eL, eP, G.pures, G.pure, Z8, Jj, Ql, Qf, Qu]
theorem V6 {O O' : Objs} {n : Nat} (xs : List (List Int)) : Q7 O O' n (fl (eL (eI .u64)) xs) (fl (eL (eI .u64)) xs) := Ge (Z8 Xx xs)
theorem V5 {O O' : Objs} {n : Nat} (xs : List (List Int)) (b b' : List G) : Q7 O O' n (fl (eL (eI .u64)) xs ++ b) (fl (eL (eI .u64)) xs ++ b') = Q7 O O' n b b' := Vj b b' _ (Z8 Xx xs)
theorem V0 (xs : List (List Int)) : (fl (eL (eI .u64)) xs).length = xs.length * 1 := Xg (f := (eL (eI .u64))) (k := 1) (fun _ => rfl) xs
theorem V2 (xs : List (List Int)) : (fl (eL (eI .u64)) xs).all G.one = true := Jn (fun x => by simp [eI, eB, eS, eL, eP, Gu, G.one, Value.oneCell']) xs
theorem V7 {O O' : Objs} {n : Nat} (x : Option (List Int)) : wk O O' n (gP (eL (eI .u64)) x) (gP (eL (eI .u64)) x) = True := Zkj Xx x
theorem Vi {k : Nat} (x : Option (List Int)) : (gP (eL (eI .u64)) x).under k = true := Vh Xx k x
theorem Ve {ρ : Nat → Nat} (xs : List (List Int)) : G.rens ρ (fl (eL (eI .u64)) xs) = fl (eL (eI .u64)) xs := X3 ρ _ (Z8 Xx xs)
theorem Vd {ρ : Nat → Nat} (x : Option (List Int)) : (gP (eL (eI .u64)) x).ren ρ = gP (eL (eI .u64)) x := Ko ρ _ (Jj Xx x)
theorem V4 {k : Nat} (xs : List (List Int)) : G.unders k (fl (eL (eI .u64)) xs) = true := Yi _ _ (Z8 Xx xs)
end Go.Proofs.Ytgijkjifiekkmaa
