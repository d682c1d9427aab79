/- Part IE of this seat's mirrors: functions of the seat's program, and the plain functions that they are; each theorem bears its own conditions. -/
import Derived.Test.YtgffgbdnbjbmoaaTy
import Derived.Test.YtgffgbdnbjbmoaaID
namespace Go.Proofs.Ytgffgbdnbjbmoaa
open Go.RowKit
set_option linter.unusedVariables false
set_option linter.unusedSimpArgs false
set_option maxRecDepth 100000
set_option maxHeartbeats 4000000
theorem X7 : ∀ x, G.pures ((eI .u64) x) = true := fun x => by simp [eI, eB, eS, eL, eP, G.pures, G.pure, Zx, Qz]
theorem Zk4 {O O' : Objs} {n : Nat} (xs : List Int) : Ku O O' n (fl (eI .u64) xs) (fl (eI .u64) xs) := Vp (Zx X7 xs)
theorem Zk2 {O O' : Objs} {n : Nat} (xs : List Int) (b b' : List G) : Ku O O' n (fl (eI .u64) xs ++ b) (fl (eI .u64) xs ++ b') = Ku O O' n b b' := K8 b b' _ (Zx X7 xs)
theorem Zj6 (xs : List Int) : (fl (eI .u64) xs).length = xs.length * 1 := Q9 (f := (eI .u64)) (k := 1) (fun _ => rfl) xs
theorem Zkf (xs : List Int) : (fl (eI .u64) xs).all G.one = true := Jj (fun x => by simp [eI, eB, eS, eL, eP, Gi, G.one, Value.oneCell']) xs
theorem Zk6 {O O' : Objs} {n : Nat} (x : Option Int) : wk O O' n (gP (eI .u64) x) (gP (eI .u64) x) = True := Zfg X7 x
theorem Zin {k : Nat} (x : Option Int) : (gP (eI .u64) x).under k = true := K6 X7 k x
theorem Zie {ρ : Nat → Nat} (xs : List Int) : G.rens ρ (fl (eI .u64) xs) = fl (eI .u64) xs := Qk ρ _ (Zx X7 xs)
theorem Zic {ρ : Nat → Nat} (x : Option Int) : (gP (eI .u64) x).ren ρ = gP (eI .u64) x := Kr ρ _ (Qz X7 x)
theorem Zkx {k : Nat} (xs : List Int) : G.unders k (fl (eI .u64) xs) = true := Yr _ _ (Zx X7 xs)
theorem Y4 : ∀ x, G.pures ((eL (eI .u64)) x) = true := fun x => by simp [eI, eB, eS, eL, eP, G.pures, G.pure, Zx, Qz, X7]
theorem Zfi {O O' : Objs} {n : Nat} (xs : List (List Int)) : Ku O O' n (fl (eL (eI .u64)) xs) (fl (eL (eI .u64)) xs) := Vp (Zx Y4 xs)
theorem Zfh {O O' : Objs} {n : Nat} (xs : List (List Int)) (b b' : List G) : Ku O O' n (fl (eL (eI .u64)) xs ++ b) (fl (eL (eI .u64)) xs ++ b') = Ku O O' n b b' := K8 b b' _ (Zx Y4 xs)
theorem Ze8 (xs : List (List Int)) : (fl (eL (eI .u64)) xs).length = xs.length * 1 := Q9 (f := (eL (eI .u64))) (k := 1) (fun _ => rfl) xs
theorem Zfd (xs : List (List Int)) : (fl (eL (eI .u64)) xs).all G.one = true := Jj (fun x => by simp [eI, eB, eS, eL, eP, Gi, G.one, Value.oneCell']) xs
theorem Zfj {O O' : Objs} {n : Nat} (x : Option (List Int)) : wk O O' n (gP (eL (eI .u64)) x) (gP (eL (eI .u64)) x) = True := Zfg Y4 x
theorem Zel {k : Nat} (x : Option (List Int)) : (gP (eL (eI .u64)) x).under k = true := K6 Y4 k x
theorem Zei {ρ : Nat → Nat} (xs : List (List Int)) : G.rens ρ (fl (eL (eI .u64)) xs) = fl (eL (eI .u64)) xs := Qk ρ _ (Zx Y4 xs)
theorem Zeh {ρ : Nat → Nat} (x : Option (List Int)) : (gP (eL (eI .u64)) x).ren ρ = gP (eL (eI .u64)) x := Kr ρ _ (Qz Y4 x)
theorem Zff {k : Nat} (xs : List (List Int)) : G.unders k (fl (eL (eI .u64)) xs) = true := Yr _ _ (Zx Y4 xs)
def Zj (x : Ze) : List G := [.sl x.segments.length (fl (eL (eI .u64)) x.segments), .val (.int .i64 x.size), .val (.int .i64 x.left)]
theorem Z7 : ∀ x, G.pures (Zj x) = true := fun x => by simp [eI, eB, eS, eL, eP, G.pures, G.pure, Zx, Qz, Zj, X7, Y4]
theorem Zar {O O' : Objs} {n : Nat} (xs : List Ze) : Ku O O' n (fl Zj xs) (fl Zj xs) := Vp (Zx Z7 xs)
theorem Zaq {O O' : Objs} {n : Nat} (xs : List Ze) (b b' : List G) : Ku O O' n (fl Zj xs ++ b) (fl Zj xs ++ b') = Ku O O' n b b' := K8 b b' _ (Zx Z7 xs)
theorem Zam (xs : List Ze) : (fl Zj xs).length = xs.length * 3 := Q9 (f := Zj) (k := 3) (fun _ => rfl) xs
theorem Zao (xs : List Ze) : (fl Zj xs).all G.one = true := Jj (fun x => by simp [eI, eB, eS, eL, eP, Gi, G.one, Value.oneCell', Zj]) xs
theorem Zas {O O' : Objs} {n : Nat} (x : Option Ze) : wk O O' n (gP Zj x) (gP Zj x) = True := Zfg Z7 x
theorem Zaa {k : Nat} (x : Option Ze) : (gP Zj x).under k = true := K6 Z7 k x
theorem G5 {ρ : Nat → Nat} (xs : List Ze) : G.rens ρ (fl Zj xs) = fl Zj xs := Qk ρ _ (Zx Z7 xs)
theorem G4 {ρ : Nat → Nat} (x : Option Ze) : (gP Zj x).ren ρ = gP Zj x := Kr ρ _ (Qz Z7 x)
theorem Zap {k : Nat} (xs : List Ze) : G.unders k (fl Zj xs) = true := Yr _ _ (Zx Z7 xs)
def Zhw (x : Ym) : List G := [.val (.int .i64 x.Kind), .val (.int .i64 x.Off), .val (.int .i64 x.Data), .val (.int .i64 x.Ptrs), .val (.int .i64 x.Code), .val (.int .i64 x.Count), .val (.int .i64 x.Segment), .val (.bool x.Double)]
theorem Jh : ∀ x, G.pures ((eI .i64) x) = true := fun x => by simp [eI, eB, eS, eL, eP, G.pures, G.pure, Zx, Qz, X7, Y4, Z7]
theorem Zk3 {O O' : Objs} {n : Nat} (xs : List Int) : Ku O O' n (fl (eI .i64) xs) (fl (eI .i64) xs) := Vp (Zx Jh xs)
theorem Zk1 {O O' : Objs} {n : Nat} (xs : List Int) (b b' : List G) : Ku O O' n (fl (eI .i64) xs ++ b) (fl (eI .i64) xs ++ b') = Ku O O' n b b' := K8 b b' _ (Zx Jh xs)
theorem Zj5 (xs : List Int) : (fl (eI .i64) xs).length = xs.length * 1 := Q9 (f := (eI .i64)) (k := 1) (fun _ => rfl) xs
theorem Zke (xs : List Int) : (fl (eI .i64) xs).all G.one = true := Jj (fun x => by simp [eI, eB, eS, eL, eP, Gi, G.one, Value.oneCell']) xs
theorem Zk5 {O O' : Objs} {n : Nat} (x : Option Int) : wk O O' n (gP (eI .i64) x) (gP (eI .i64) x) = True := Zfg Jh x
theorem Zim {k : Nat} (x : Option Int) : (gP (eI .i64) x).under k = true := K6 Jh k x
theorem Zid {ρ : Nat → Nat} (xs : List Int) : G.rens ρ (fl (eI .i64) xs) = fl (eI .i64) xs := Qk ρ _ (Zx Jh xs)
theorem Zib {ρ : Nat → Nat} (x : Option Int) : (gP (eI .i64) x).ren ρ = gP (eI .i64) x := Kr ρ _ (Qz Jh x)
theorem Zkw {k : Nat} (xs : List Int) : G.unders k (fl (eI .i64) xs) = true := Yr _ _ (Zx Jh xs)
def Zhv (x : Y3) : List G := [.val (.int .i64 x.P.Kind), .val (.int .i64 x.P.Off), .val (.int .i64 x.P.Data), .val (.int .i64 x.P.Ptrs), .val (.int .i64 x.P.Code), .val (.int .i64 x.P.Count), .val (.int .i64 x.P.Segment), .val (.bool x.P.Double), .val (.int .i64 x.Segment), .val (.int .i64 x.At)]
def Zdz (x : Za) : List G := [(gP Zj x.a), .val (.int .i64 x.kind), .val (.int .i64 x.segment), .val (.int .i64 x.at_), .val (.int .i64 x.words), .val (.int .i64 x.ptrs), .val (.int .i64 x.count), .val (.int .i64 x.code), .val (.int .i64 x.index)]
def Zz (x : Zm) : List G := [.val (.int .u64 x.sum), .val (.int .i64 x.left)]
theorem Ya : ∀ x, G.pures (Zz x) = true := fun x => by simp [eI, eB, eS, eL, eP, G.pures, G.pure, Zx, Qz, Zz, X7, Y4, Z7, Jh]
theorem Zae {O O' : Objs} {n : Nat} (xs : List Zm) : Ku O O' n (fl Zz xs) (fl Zz xs) := Vp (Zx Ya xs)
theorem Zac {O O' : Objs} {n : Nat} (xs : List Zm) (b b' : List G) : Ku O O' n (fl Zz xs ++ b) (fl Zz xs ++ b') = Ku O O' n b b' := K8 b b' _ (Zx Ya xs)
theorem Gq (xs : List Zm) : (fl Zz xs).length = xs.length * 2 := Q9 (f := Zz) (k := 2) (fun _ => rfl) xs
theorem G0 (xs : List Zm) : (fl Zz xs).all G.one = true := Jj (fun x => by simp [eI, eB, eS, eL, eP, Gi, G.one, Value.oneCell', Zz]) xs
theorem Zag {O O' : Objs} {n : Nat} (x : Option Zm) : wk O O' n (gP Zz x) (gP Zz x) = True := Zfg Ya x
theorem U6 {k : Nat} (x : Option Zm) : (gP Zz x).under k = true := K6 Ya k x
theorem U3 {ρ : Nat → Nat} (xs : List Zm) : G.rens ρ (fl Zz xs) = fl Zz xs := Qk ρ _ (Zx Ya xs)
theorem U1 {ρ : Nat → Nat} (x : Option Zm) : (gP Zz x).ren ρ = gP Zz x := Kr ρ _ (Qz Ya x)
theorem G8 {k : Nat} (xs : List Zm) : G.unders k (fl Zz xs) = true := Yr _ _ (Zx Ya xs)
def Zb (x : Zi) : List G := [.val (.int .u64 x.hash), (gP Zj x.r.a), .val (.int .i64 x.r.kind), .val (.int .i64 x.r.segment), .val (.int .i64 x.r.at_), .val (.int .i64 x.r.words), .val (.int .i64 x.r.ptrs), .val (.int .i64 x.r.count), .val (.int .i64 x.r.code), .val (.int .i64 x.r.index)]
def Zq (x : Zl) : List G := [.sl x.classes.length (fl Zb x.classes), .sl x.places.length (fl (eI .i64) x.places)]
theorem Yb : ∀ x, G.pures (Zb x) = true := fun x => by simp [eI, eB, eS, eL, eP, G.pures, G.pure, Zx, Qz, Zb, X7, Y4, Z7, Jh, Ya]
theorem U9 {O O' : Objs} {n : Nat} (xs : List Zi) : Ku O O' n (fl Zb xs) (fl Zb xs) := Vp (Zx Yb xs)
theorem U8 {O O' : Objs} {n : Nat} (xs : List Zi) (b b' : List G) : Ku O O' n (fl Zb xs ++ b) (fl Zb xs ++ b') = Ku O O' n b b' := K8 b b' _ (Zx Yb xs)
theorem Ux (xs : List Zi) : (fl Zb xs).length = xs.length * 10 := Q9 (f := Zb) (k := 10) (fun _ => rfl) xs
theorem U0 (xs : List Zi) : (fl Zb xs).all G.one = true := Jj (fun x => by first | (simp [eI, eB, eS, eL, eP, Gi, G.one, Value.oneCell', Zb]; done) | (simp only [List.all_cons, List.all_nil, Gi, Bool.true_and, Bool.and_true, Zb] <;> rfl)) xs
theorem Ga {O O' : Objs} {n : Nat} (x : Option Zi) : wk O O' n (gP Zb x) (gP Zb x) = True := Zfg Yb x
theorem Ur {k : Nat} (x : Option Zi) : (gP Zb x).under k = true := K6 Yb k x
theorem Um {ρ : Nat → Nat} (xs : List Zi) : G.rens ρ (fl Zb xs) = fl Zb xs := Qk ρ _ (Zx Yb xs)
theorem Ul {ρ : Nat → Nat} (x : Option Zi) : (gP Zb x).ren ρ = gP Zb x := Kr ρ _ (Qz Yb x)
theorem U5 {k : Nat} (xs : List Zi) : G.unders k (fl Zb xs) = true := Yr _ _ (Zx Yb xs)
theorem Yn : ∀ x, G.pures (Zq x) = true := fun x => by simp [eI, eB, eS, eL, eP, G.pures, G.pure, Zx, Qz, Zq, X7, Y4, Z7, Jh, Ya, Yb]
theorem Zaf {O O' : Objs} {n : Nat} (xs : List Zl) : Ku O O' n (fl Zq xs) (fl Zq xs) := Vp (Zx Yn xs)
theorem Zad {O O' : Objs} {n : Nat} (xs : List Zl) (b b' : List G) : Ku O O' n (fl Zq xs ++ b) (fl Zq xs ++ b') = Ku O O' n b b' := K8 b b' _ (Zx Yn xs)
theorem Gr (xs : List Zl) : (fl Zq xs).length = xs.length * 2 := Q9 (f := Zq) (k := 2) (fun _ => rfl) xs
theorem G3 (xs : List Zl) : (fl Zq xs).all G.one = true := Jj (fun x => by simp [eI, eB, eS, eL, eP, Gi, G.one, Value.oneCell', Zq]) xs
theorem Zah {O O' : Objs} {n : Nat} (x : Option Zl) : wk O O' n (gP Zq x) (gP Zq x) = True := Zfg Yn x
theorem U7 {k : Nat} (x : Option Zl) : (gP Zq x).under k = true := K6 Yn k x
theorem U4 {ρ : Nat → Nat} (xs : List Zl) : G.rens ρ (fl Zq xs) = fl Zq xs := Qk ρ _ (Zx Yn xs)
theorem U2 {ρ : Nat → Nat} (x : Option Zl) : (gP Zq x).ren ρ = gP Zq x := Kr ρ _ (Qz Yn x)
theorem G9 {k : Nat} (xs : List Zl) : G.unders k (fl Zq xs) = true := Yr _ _ (Zx Yn xs)
def Zv (x : Zd) : List G := [.val (.int .i64 x.left)]
theorem Yl : ∀ x, G.pures (Zv x) = true := fun x => by simp [eI, eB, eS, eL, eP, G.pures, G.pure, Zx, Qz, Zv, X7, Y4, Z7, Jh, Ya, Yb, Yn]
theorem Ut {O O' : Objs} {n : Nat} (xs : List Zd) : Ku O O' n (fl Zv xs) (fl Zv xs) := Vp (Zx Yl xs)
theorem Us {O O' : Objs} {n : Nat} (xs : List Zd) (b b' : List G) : Ku O O' n (fl Zv xs ++ b) (fl Zv xs ++ b') = Ku O O' n b b' := K8 b b' _ (Zx Yl xs)
theorem Ua (xs : List Zd) : (fl Zv xs).length = xs.length * 1 := Q9 (f := Zv) (k := 1) (fun _ => rfl) xs
theorem Uk (xs : List Zd) : (fl Zv xs).all G.one = true := Jj (fun x => by simp [eI, eB, eS, eL, eP, Gi, G.one, Value.oneCell', Zv]) xs
theorem Uu {O O' : Objs} {n : Nat} (x : Option Zd) : wk O O' n (gP Zv x) (gP Zv x) = True := Zfg Yl x
theorem Vy {k : Nat} (x : Option Zd) : (gP Zv x).under k = true := K6 Yl k x
theorem Vx {ρ : Nat → Nat} (xs : List Zd) : G.rens ρ (fl Zv xs) = fl Zv xs := Qk ρ _ (Zx Yl xs)
theorem Vw {ρ : Nat → Nat} (x : Option Zd) : (gP Zv x).ren ρ = gP Zv x := Kr ρ _ (Qz Yl x)
theorem Uq {k : Nat} (xs : List Zd) : G.unders k (fl Zv xs) = true := Yr _ _ (Zx Yl xs)
mutual
def Jz : Zg → List G
 | ⟨f0, f1, f2⟩ => [.val (.int .i64 f0), .sl f1.length (fl (eI .u64) f1), .sl f2.length (J0 f2)]
def J0 : List Zg → List G
 | [] => []
 | x :: xs => Jz x ++ J0 xs
end
theorem Zcf : ∀ xs, J0 xs = fl Jz xs
 | [] => by simp [J0, fl]
 | x :: xs => by rw [J0, Vq, Zcf xs]
def Zf (x : Zg) : List G := [.val (.int .i64 x.Kind), .sl x.Words.length (fl (eI .u64) x.Words), .sl x.Kids.length (fl Jz x.Kids)]
theorem Vb : Jz = Zf := by
 funext x
 obtain ⟨_, _, _⟩ := x
 simp only [Jz, Zcf, Zf, List.cons_append, List.nil_append, List.append_nil]
mutual
theorem Zeg : ∀ x, G.pures (Jz x) = true
 | ⟨f0, f1, f2⟩ => by simp [Jz, eP, Qz, eI, eB, eS, eL, G.pures, G.pure, Zes, Zx, Zdm f2, X7, Y4, Z7, Jh, Ya, Yb, Yn, Yl]
theorem Zdm : ∀ xs, G.pures (J0 xs) = true
 | [] => rfl
 | x :: xs => by simp [J0, Zes, Zeg x, Zdm xs]
end
theorem Qm : ∀ x, G.pures (Zf x) = true := fun x => by rw [← Vb]; exact Zeg x
theorem Zc1 {O O' : Objs} {n : Nat} (xs : List Zg) : Ku O O' n (fl Zf xs) (fl Zf xs) := Vp (Zx Qm xs)
theorem Zcz {O O' : Objs} {n : Nat} (xs : List Zg) (b b' : List G) : Ku O O' n (fl Zf xs ++ b) (fl Zf xs ++ b') = Ku O O' n b b' := K8 b b' _ (Zx Qm xs)
theorem Zci (xs : List Zg) : (fl Zf xs).length = xs.length * 3 := Q9 (f := Zf) (k := 3) (fun _ => rfl) xs
theorem Zco (xs : List Zg) : (fl Zf xs).all G.one = true := Jj (fun x => by simp [eI, eB, eS, eL, eP, Gi, G.one, Value.oneCell', Zf]) xs
theorem Zc3 {O O' : Objs} {n : Nat} (x : Option Zg) : wk O O' n (gP Zf x) (gP Zf x) = True := Zfg Qm x
theorem Zb5 {k : Nat} (x : Option Zg) : (gP Zf x).under k = true := K6 Qm k x
theorem Zb1 {ρ : Nat → Nat} (xs : List Zg) : G.rens ρ (fl Zf xs) = fl Zf xs := Qk ρ _ (Zx Qm xs)
theorem Zbz {ρ : Nat → Nat} (x : Option Zg) : (gP Zf x).ren ρ = gP Zf x := Kr ρ _ (Qz Qm x)
theorem Zcx {k : Nat} (xs : List Zg) : G.unders k (fl Zf xs) = true := Yr _ _ (Zx Qm xs)
def Zdy (x : K9) : List G := [.val (.int .i64 x.Depth), .val (.int .i64 x.Weight), .val (.int .i64 x.MaxD), .val (.int .i64 x.MaxOut)]
def Za6 (x : Zgx) : List G := [.val (.int .i64 x.P.Kind), .val (.int .i64 x.P.Off), .val (.int .i64 x.P.Data), .val (.int .i64 x.P.Ptrs), .val (.int .i64 x.P.Code), .val (.int .i64 x.P.Count), .val (.int .i64 x.P.Segment), .val (.bool x.P.Double), .val (.int .i64 x.Segment), .val (.int .i64 x.At)]
def Za7 (x : Zcd) : List G := [.val (.int .i64 x.Kind), .val (.int .i64 x.S), .val (.int .i64 x.At), .val (.int .i64 x.Data), .val (.int .i64 x.Ptrs), .val (.int .i64 x.Count), .val (.int .u64 x.N)]
theorem Je : ∀ x, G.pures ((eL (eL (eI .u64))) x) = true := fun x => by simp [eI, eB, eS, eL, eP, G.pures, G.pure, Zx, Qz, X7, Y4, Z7, Jh, Ya, Yb, Yn, Yl, Qm, Vb]
theorem Zc0 {O O' : Objs} {n : Nat} (xs : List (List (List Int))) : Ku O O' n (fl (eL (eL (eI .u64))) xs) (fl (eL (eL (eI .u64))) xs) := Vp (Zx Je xs)
theorem Zcy {O O' : Objs} {n : Nat} (xs : List (List (List Int))) (b b' : List G) : Ku O O' n (fl (eL (eL (eI .u64))) xs ++ b) (fl (eL (eL (eI .u64))) xs ++ b') = Ku O O' n b b' := K8 b b' _ (Zx Je xs)
theorem Zch (xs : List (List (List Int))) : (fl (eL (eL (eI .u64))) xs).length = xs.length * 1 := Q9 (f := (eL (eL (eI .u64)))) (k := 1) (fun _ => rfl) xs
theorem Zcn (xs : List (List (List Int))) : (fl (eL (eL (eI .u64))) xs).all G.one = true := Jj (fun x => by simp [eI, eB, eS, eL, eP, Gi, G.one, Value.oneCell']) xs
theorem Zc2 {O O' : Objs} {n : Nat} (x : Option (List (List Int))) : wk O O' n (gP (eL (eL (eI .u64))) x) (gP (eL (eL (eI .u64))) x) = True := Zfg Je x
theorem Zb4 {k : Nat} (x : Option (List (List Int))) : (gP (eL (eL (eI .u64))) x).under k = true := K6 Je k x
theorem Zb0 {ρ : Nat → Nat} (xs : List (List (List Int))) : G.rens ρ (fl (eL (eL (eI .u64))) xs) = fl (eL (eL (eI .u64))) xs := Qk ρ _ (Zx Je xs)
theorem Zby {ρ : Nat → Nat} (x : Option (List (List Int))) : (gP (eL (eL (eI .u64))) x).ren ρ = gP (eL (eL (eI .u64))) x := Kr ρ _ (Qz Je x)
theorem Zcw {k : Nat} (xs : List (List (List Int))) : G.unders k (fl (eL (eL (eI .u64))) xs) = true := Yr _ _ (Zx Je xs)
def Z9 (x : Zi) : List G := [.val (.int .u64 x.hash), (gP Zj x.r.a), .val (.int .i64 x.r.kind), .val (.int .i64 x.r.segment), .val (.int .i64 x.r.at_), .val (.int .i64 x.r.words), .val (.int .i64 x.r.ptrs), .val (.int .i64 x.r.count), .val (.int .i64 x.r.code), .val (.int .i64 x.r.index)]
def Zc (x : Za) : List G := [(gP Zj x.a), .val (.int .i64 x.kind), .val (.int .i64 x.segment), .val (.int .i64 x.at_), .val (.int .i64 x.words), .val (.int .i64 x.ptrs), .val (.int .i64 x.count), .val (.int .i64 x.code), .val (.int .i64 x.index)]
def Q1 (x : Ym) : List G := [.val (.int .i64 x.Kind), .val (.int .i64 x.Off), .val (.int .i64 x.Data), .val (.int .i64 x.Ptrs), .val (.int .i64 x.Code), .val (.int .i64 x.Count), .val (.int .i64 x.Segment), .val (.bool x.Double)]
def Za5 (x : Zcd) : List G := [.val (.int .i64 x.Kind), .val (.int .i64 x.S), .val (.int .i64 x.At), .val (.int .i64 x.Data), .val (.int .i64 x.Ptrs), .val (.int .i64 x.Count), .val (.int .u64 x.N)]
def Zr (x : Zg) : List G := [.val (.int .i64 x.Kind), .sl x.Words.length (fl (eI .u64) x.Words), .sl x.Kids.length (fl Zf x.Kids)]
def Zdw (x : K9) : List G := [.val (.int .i64 x.Depth), .val (.int .i64 x.Weight), .val (.int .i64 x.MaxD), .val (.int .i64 x.MaxOut)]
abbrev vI (x : Int) : G := .val (.int .i64 x)
abbrev vB (x : Bool) : G := .val (.bool x)
abbrev nV : G := .val (.slice none 0 0)
abbrev sL {α : Type} (e : α → List G) (x : List α) : G := .sl x.length (fl e x)
abbrev oR {α : Type} (t s : Nat) (e : α → List G) (x : List α) : GObj := ⟨true, t, s, x.length, fl e x⟩
theorem zFn {f : FuncId} {gs : List G} {O O2 : Objs} {n n2 : Nat} {r : G} {fn : Func} {c : Code} (hc : ∀ args w, (callFunc f args).run Try.prog w = .ok (.enter f args) w) (hf : Try.prog.funcs[f]? = some fn) (h : Und O n → O n = none → (∀ k, O (n + k) = none) → W Try.prog n c (Fin Xx fn.results.toList r n O2 n2) ⟨fn.ntmps, [], Zgj 0 gs⟩ (Zo O n []) n) (hb : fn.body = some c := by exact rfl) (hn : gs.length ≤ fn.ntmps := by exact Nat.le_of_ble_eq_true rfl) (h2 : n ≤ n2 := by first | exact Nat.le_refl _ | omega) : GTo Try.prog f gs O n r O2 n2 := Zd1 Zy hc hf hb hn h2 fun hU => h hU (hU.fresh _ (Nat.le_refl _)) fun k => hU.fresh _ (Nat.le_add_right _ _)
structure Hid (p : Prop) : Prop where
 get : p
structure Ar {α : Type} (a : α) : Prop where
def Ar.v {α : Type} {a : α} (_ : Ar a) : α := a
theorem zQ {A B : Prop} (l0 : List Nat) (b : B) (e : Ar l0 → Hid B → A := by intro x0 bZ; refine Gc x0.v (Z3 Zy [] ?_); simp only [push_cast, seval, ↓reduceIte, Zk, Ar.v, hN0, hN]; exact bZ.get) : A := e ⟨⟩ ⟨b⟩
theorem zW {A B : Prop} (b : B) (e : Hid B → A := by intro bZ; refine Zz4 ?_; (try simp only [Xm, Yo]); exact bZ.get) : A := e ⟨b⟩
theorem zK {A B : Prop} (b : B) (e : Hid B → A := by intro bZ; refine Zvw ?_; (try simp only [Xm, Yo]); exact bZ.get) : A := e ⟨b⟩
theorem zSe {A : Prop} (e : A := by simp only [push_cast, seval, ↓reduceIte, Zk, hN0, hN]) : A := e
theorem zQd {A B : Prop} (l0 : List Nat) (l1 : List Nat) (l2 : List Bool) (b : B) (e : Ar l0 → Ar l1 → Ar l2 → Hid B → A := by intro x0 x1 x2 bZ; refine Gc x0.v (Z3 Zy [] ?_); simp only [push_cast, seval, ↓reduceIte, Zk, Ar.v, hN0, hN]; refine Zgy x1.v x2.v ?_; simp only [push_cast, seval, ↓reduceIte, Ar.v]; exact bZ.get) : A := e ⟨⟩ ⟨⟩ ⟨⟩ ⟨b⟩
theorem Kf {A B : Prop} (l0 : List Nat) (l1 : List Bool) (b : B) (e : Ar l0 → Ar l1 → Hid B → A := by intro x0 x1 bZ; refine Zvw ?_; (try simp only [Xm, Yo]); refine Zgy x0.v x1.v ?_; simp only [push_cast, seval, ↓reduceIte, Ar.v]; exact bZ.get) : A := e ⟨⟩ ⟨⟩ ⟨b⟩
theorem zF3 {A B : Prop} {P0 : Prop} (p0 : P0) {P1 : Prop} (p1 : P1) {P2 : Prop} (p2 : P2) (b : B) (e : P0 → P1 → P2 → Hid B → A := by intro x0 x1 x2 bZ; simp only [push_cast, Nat.reduceAdd, Nat.reduceSub, Nat.reduceMul, Nat.reduceLeDiff, Nat.reduceLT, Nat.reduceEqDiff, ↓reduceIte, reduceCtorEq, Int.reduceBEq, Int.reduceBNe, Nat.reduceBEq, Int.reduceLE, Int.reduceLT, Int.reduceEq, Int.reduceNe, Int.reduceNeg, Nat.reduceDiv, Nat.reduceMod, Nat.reducePow, Zk, x0, x1, x2, hN0, hN]; exact bZ.get) : A := e p0 p1 p2 ⟨b⟩
theorem Z12 {A B : Prop} (l0 : List (Option Bool)) {P1 : Prop} (p1 : P1) {P2 : Prop} (p2 : P2) {P3 : Prop} (p3 : P3) {P4 : Prop} (p4 : P4) (b : B) (e : Ar l0 → P1 → P2 → P3 → P4 → Hid B → A := by intro x0 x1 x2 x3 x4 bZ; refine Z3 Zy x0.v ?_; simp only [push_cast, Nat.reduceAdd, Nat.reduceSub, Nat.reduceMul, Nat.reduceLeDiff, Nat.reduceLT, Nat.reduceEqDiff, ↓reduceIte, reduceCtorEq, Int.reduceBEq, Int.reduceBNe, Nat.reduceBEq, Int.reduceLE, Int.reduceLT, Int.reduceEq, Int.reduceNe, Int.reduceNeg, Nat.reduceDiv, Nat.reduceMod, Nat.reducePow, Zk, Ar.v, x1, x2, x3, x4, hN0, hN]; exact bZ.get) : A := e ⟨⟩ p1 p2 p3 p4 ⟨b⟩
theorem zF4 {A B : Prop} {P0 : Prop} (p0 : P0) {P1 : Prop} (p1 : P1) {P2 : Prop} (p2 : P2) {P3 : Prop} (p3 : P3) (b : B) (e : P0 → P1 → P2 → P3 → Hid B → A := by intro x0 x1 x2 x3 bZ; simp only [push_cast, Nat.reduceAdd, Nat.reduceSub, Nat.reduceMul, Nat.reduceLeDiff, Nat.reduceLT, Nat.reduceEqDiff, ↓reduceIte, reduceCtorEq, Int.reduceBEq, Int.reduceBNe, Nat.reduceBEq, Int.reduceLE, Int.reduceLT, Int.reduceEq, Int.reduceNe, Int.reduceNeg, Nat.reduceDiv, Nat.reduceMod, Nat.reducePow, Zk, x0, x1, x2, x3, hN0, hN]; exact bZ.get) : A := e p0 p1 p2 p3 ⟨b⟩
theorem zD {A B : Prop} (l0 : List Nat) (l1 : List Bool) (b : B) (e : Ar l0 → Ar l1 → Hid B → A := by intro x0 x1 bZ; refine Zgy x0.v x1.v ?_; simp only [push_cast, seval, ↓reduceIte, Ar.v]; exact bZ.get) : A := e ⟨⟩ ⟨⟩ ⟨b⟩
theorem zR {A B : Prop} (b : B) (e : Hid B → A := by intro bZ; refine Z3 Zy [] ?_; simp only [push_cast, seval, ↓reduceIte, Zk, hN0, hN]; exact bZ.get) : A := e ⟨b⟩
theorem zEn {A : Prop} {P0 : Prop} (p0 : P0) (e : P0 → A := by intro x0; have h9 := Option.some.inj x0; subst h9; refine And.intro rfl (Fit2.of (Yc hU rfl rfl ?_) (by omega)); simp only [push_cast, seval, ↓reduceIte, Zk, hN0, hN]) : A := e p0
theorem zEx {A : Prop} {P0 : Prop} (p0 : P0) (e : P0 → A := by intro x0; refine Zvv ?_; (try simp only [Xm, Yo, ↓reduceIte, Nat.reduceEqDiff]); have h9 := Option.some.inj x0; subst h9; refine And.intro (fun h => by cases h) (And.intro rfl (Fit2.of (Yc hU rfl rfl ?_) (by omega))); simp only [push_cast, seval, ↓reduceIte, Zk, hN0, hN]) : A := e p0
theorem Yk {A : Prop} (l0 : List G) (e : Ar l0 → A := by intro x0; refine Zz4 ?_; (try simp only [Xm, Yo]); have h := Option.some.inj h; subst h; refine Zry (.inr rfl) hU x0.v (by omega) ?_; simp only [push_cast, seval, ↓reduceIte, Zk, Ar.v, hN0, hN]) : A := e ⟨⟩
theorem zCd {A B : Prop} {P0 : Prop} (p0 : P0) (l1 : List Nat) (l2 : List Bool) (b : B) (e : P0 → Ar l1 → Ar l2 → Hid B → A := by intro x0 x1 x2 bZ; refine Z3 Zy [] ?_; simp only [push_cast, seval, ↓reduceIte, Zk, hN0, hN]; refine x0.then ?_; simp only [push_cast, seval, ↓reduceIte, Zk, hN0, hN]; refine Zgy x1.v x2.v ?_; simp only [push_cast, seval, ↓reduceIte, Ar.v]; exact bZ.get) : A := e p0 ⟨⟩ ⟨⟩ ⟨b⟩
theorem Z4s {A B : Prop} (l0 : List Nat) {P1 : Prop} (p1 : P1) (b : B) (e : Ar l0 → P1 → Hid B → A := by intro x0 x1 bZ; refine Gc x0.v (Z3 Zy [] ?_); simp only [push_cast, seval, ↓reduceIte, Zk, Ar.v, x1, hN0, hN]; exact bZ.get) : A := e ⟨⟩ p1 ⟨b⟩
theorem Zau {A B : Prop} (l0 : List (Option Bool)) {P1 : Prop} (p1 : P1) (b : B) (e : Ar l0 → P1 → Hid B → A := by intro x0 x1 bZ; refine Z3 Zy x0.v ?_; simp only [push_cast, seval, ↓reduceIte, Zk, Ar.v, x1, hN0, hN]; exact bZ.get) : A := e ⟨⟩ p1 ⟨b⟩
theorem zX1 {A B : Prop} {P0 : Prop} (p0 : P0) (b : B) (e : P0 → Hid B → A := by intro x0 bZ; simp only [push_cast, seval, ↓reduceIte, Zk, x0, hN0, hN]; exact bZ.get) : A := e p0 ⟨b⟩
theorem Zat {A : Prop} {P0 : Prop} (p0 : P0) {P1 : Prop} (p1 : P1) (e : P0 → P1 → A := by intro x0 x1; have h9 := Option.some.inj x0; subst h9; refine And.intro rfl (Fit2.of (Yc hU rfl rfl ?_) (by omega)); simp only [push_cast, seval, ↓reduceIte, Zk, x1, hN0, hN]) : A := e p0 p1
theorem Zyx {A B : Prop} (l0 : List (Option Bool)) {P1 : Prop} (p1 : P1) {P2 : Prop} (p2 : P2) {P3 : Prop} (p3 : P3) {P4 : Prop} (p4 : P4) (b : B) (e : Ar l0 → P1 → P2 → P3 → P4 → Hid B → A := by intro x0 x1 x2 x3 x4 bZ; refine Z3 Zy x0.v ?_; simp only [push_cast, seval, ↓reduceIte, Zk, Ar.v, x1, x2, x3, x4, hN0, hN]; exact bZ.get) : A := e ⟨⟩ p1 p2 p3 p4 ⟨b⟩
theorem zG {A B : Prop} (b : B) (e : Hid B → A := by intro bZ; (repeat (with_reducible refine And.intro (by first | (intro h0; simp only [h0, and_self]; done) | (intro h0; simp only [h0, Bool.not_false, Bool.not_true, Bool.true_and, Bool.and_true, true_and, and_true, and_self, imp_self, implies_true, bne_iff_ne, ne_eq, beq_iff_eq]; done) | (intros; simp_all; done) | exact True.intro) ?_)); exact bZ.get) : A := e ⟨b⟩
theorem zX4 {A B : Prop} {P0 : Prop} (p0 : P0) {P1 : Prop} (p1 : P1) {P2 : Prop} (p2 : P2) {P3 : Prop} (p3 : P3) (b : B) (e : P0 → P1 → P2 → P3 → Hid B → A := by intro x0 x1 x2 x3 bZ; simp only [push_cast, seval, ↓reduceIte, Zk, x0, x1, x2, x3, hN0, hN]; exact bZ.get) : A := e p0 p1 p2 p3 ⟨b⟩
theorem Zyv {A : Prop} {P0 : Prop} (p0 : P0) {P1 : Prop} (p1 : P1) {P2 : Prop} (p2 : P2) {P3 : Prop} (p3 : P3) {P4 : Prop} (p4 : P4) (e : P0 → P1 → P2 → P3 → P4 → A := by intro x0 x1 x2 x3 x4; have h9 := Option.some.inj x0; subst h9; refine And.intro rfl (Fit2.of (Yc hU rfl rfl ?_) (by omega)); simp only [push_cast, seval, ↓reduceIte, Zk, x1, x2, x3, x4, hN0, hN]) : A := e p0 p1 p2 p3 p4
theorem Zgw {A B : Prop} (l0 : List (Option Bool)) {P1 : Prop} (p1 : P1) {P2 : Prop} (p2 : P2) {P3 : Prop} (p3 : P3) (b : B) (e : Ar l0 → P1 → P2 → P3 → Hid B → A := by intro x0 x1 x2 x3 bZ; refine Z3 Zy x0.v ?_; simp only [push_cast, seval, ↓reduceIte, Zk, Ar.v, x1, x2, x3, hN0, hN]; exact bZ.get) : A := e ⟨⟩ p1 p2 p3 ⟨b⟩
theorem zX3 {A B : Prop} {P0 : Prop} (p0 : P0) {P1 : Prop} (p1 : P1) {P2 : Prop} (p2 : P2) (b : B) (e : P0 → P1 → P2 → Hid B → A := by intro x0 x1 x2 bZ; simp only [push_cast, seval, ↓reduceIte, Zk, x0, x1, x2, hN0, hN]; exact bZ.get) : A := e p0 p1 p2 ⟨b⟩
theorem Z1z {A : Prop} {P0 : Prop} (p0 : P0) {P1 : Prop} (p1 : P1) {P2 : Prop} (p2 : P2) {P3 : Prop} (p3 : P3) (e : P0 → P1 → P2 → P3 → A := by intro x0 x1 x2 x3; have h9 := Option.some.inj x0; subst h9; refine And.intro rfl (Fit2.of (Yc hU rfl rfl ?_) (by omega)); simp only [push_cast, seval, ↓reduceIte, Zk, x1, x2, x3, hN0, hN]) : A := e p0 p1 p2 p3
theorem Qn {A B : Prop} (l0 : List (Option Bool)) {P1 : Prop} (p1 : P1) {P2 : Prop} (p2 : P2) (b : B) (e : Ar l0 → P1 → P2 → Hid B → A := by intro x0 x1 x2 bZ; refine Z3 Zy x0.v ?_; simp only [push_cast, seval, ↓reduceIte, Zk, Ar.v, x1, x2, hN0, hN]; exact bZ.get) : A := e ⟨⟩ p1 p2 ⟨b⟩
theorem zX2 {A B : Prop} {P0 : Prop} (p0 : P0) {P1 : Prop} (p1 : P1) (b : B) (e : P0 → P1 → Hid B → A := by intro x0 x1 bZ; simp only [push_cast, seval, ↓reduceIte, Zk, x0, x1, hN0, hN]; exact bZ.get) : A := e p0 p1 ⟨b⟩
theorem Zux {A : Prop} {P0 : Prop} (p0 : P0) {P1 : Prop} (p1 : P1) {P2 : Prop} (p2 : P2) (e : P0 → P1 → P2 → A := by intro x0 x1 x2; have h9 := Option.some.inj x0; subst h9; refine And.intro rfl (Fit2.of (Yc hU rfl rfl ?_) (by omega)); simp only [push_cast, seval, ↓reduceIte, Zk, x1, x2, hN0, hN]) : A := e p0 p1 p2
theorem zF7 {A B : Prop} {P0 : Prop} (p0 : P0) {P1 : Prop} (p1 : P1) {P2 : Prop} (p2 : P2) {P3 : Prop} (p3 : P3) {P4 : Prop} (p4 : P4) {P5 : Prop} (p5 : P5) {P6 : Prop} (p6 : P6) (b : B) (e : P0 → P1 → P2 → P3 → P4 → P5 → P6 → Hid B → A := by intro x0 x1 x2 x3 x4 x5 x6 bZ; simp only [push_cast, Nat.reduceAdd, Nat.reduceSub, Nat.reduceMul, Nat.reduceLeDiff, Nat.reduceLT, Nat.reduceEqDiff, ↓reduceIte, reduceCtorEq, Int.reduceBEq, Int.reduceBNe, Nat.reduceBEq, Int.reduceLE, Int.reduceLT, Int.reduceEq, Int.reduceNe, Int.reduceNeg, Nat.reduceDiv, Nat.reduceMod, Nat.reducePow, Zk, x0, x1, x2, x3, x4, x5, x6, hN0, hN]; exact bZ.get) : A := e p0 p1 p2 p3 p4 p5 p6 ⟨b⟩
theorem zC {A B : Prop} {P0 : Prop} (p0 : P0) (b : B) (e : P0 → Hid B → A := by intro x0 bZ; refine Z3 Zy [] ?_; simp only [push_cast, seval, ↓reduceIte, Zk, hN0, hN]; refine x0.then ?_; simp only [push_cast, seval, ↓reduceIte, Zk, hN0, hN]; exact bZ.get) : A := e p0 ⟨b⟩
theorem zTs {A B : Prop} {P0 : Prop} (p0 : P0) (b : B) (e : P0 → Hid B → A := by intro x0 bZ; refine x0.then ?_; simp only [push_cast, seval, ↓reduceIte, Zk, hN0, hN]; exact bZ.get) : A := e p0 ⟨b⟩
theorem Z4t {A B : Prop} (l0 : List (Option Bool)) {P1 : Prop} (p1 : P1) {P2 : Prop} (p2 : P2) {P3 : Prop} (p3 : P3) {P4 : Prop} (p4 : P4) {P5 : Prop} (p5 : P5) {P6 : Prop} (p6 : P6) {P7 : Prop} (p7 : P7) {P8 : Prop} (p8 : P8) (b : B) (e : Ar l0 → P1 → P2 → P3 → P4 → P5 → P6 → P7 → P8 → Hid B → A := by intro x0 x1 x2 x3 x4 x5 x6 x7 x8 bZ; refine Z3 Zy x0.v ?_; simp only [push_cast, Nat.reduceAdd, Nat.reduceSub, Nat.reduceMul, Nat.reduceLeDiff, Nat.reduceLT, Nat.reduceEqDiff, ↓reduceIte, reduceCtorEq, Int.reduceBEq, Int.reduceBNe, Nat.reduceBEq, Int.reduceLE, Int.reduceLT, Int.reduceEq, Int.reduceNe, Int.reduceNeg, Nat.reduceDiv, Nat.reduceMod, Nat.reducePow, Zk, Ar.v, x1, x2, x3, x4, x5, x6, x7, x8, hN0, hN]; exact bZ.get) : A := e ⟨⟩ p1 p2 p3 p4 p5 p6 p7 p8 ⟨b⟩
theorem zF8 {A B : Prop} {P0 : Prop} (p0 : P0) {P1 : Prop} (p1 : P1) {P2 : Prop} (p2 : P2) {P3 : Prop} (p3 : P3) {P4 : Prop} (p4 : P4) {P5 : Prop} (p5 : P5) {P6 : Prop} (p6 : P6) {P7 : Prop} (p7 : P7) (b : B) (e : P0 → P1 → P2 → P3 → P4 → P5 → P6 → P7 → Hid B → A := by intro x0 x1 x2 x3 x4 x5 x6 x7 bZ; simp only [push_cast, Nat.reduceAdd, Nat.reduceSub, Nat.reduceMul, Nat.reduceLeDiff, Nat.reduceLT, Nat.reduceEqDiff, ↓reduceIte, reduceCtorEq, Int.reduceBEq, Int.reduceBNe, Nat.reduceBEq, Int.reduceLE, Int.reduceLT, Int.reduceEq, Int.reduceNe, Int.reduceNeg, Nat.reduceDiv, Nat.reduceMod, Nat.reducePow, Zk, x0, x1, x2, x3, x4, x5, x6, x7, hN0, hN]; exact bZ.get) : A := e p0 p1 p2 p3 p4 p5 p6 p7 ⟨b⟩
theorem zQD {A B : Prop} (l0 : List Nat) (l1 : List (Option Bool)) (b : B) (e : Ar l0 → Ar l1 → Hid B → A := by intro x0 x1 bZ; refine Gc x0.v (Z3 Zy x1.v ?_); simp only [push_cast, seval, ↓reduceIte, Zk, Ar.v, hN0, hN]; (repeat (with_reducible refine And.intro (by first | (intro h0; simp only [h0, and_self]; done) | (intro h0; simp only [h0, Bool.not_false, Bool.not_true, Bool.true_and, Bool.and_true, true_and, and_true, and_self, imp_self, implies_true, bne_iff_ne, ne_eq, beq_iff_eq]; done) | (intros; simp_all; done) | exact True.intro) ?_)); exact bZ.get) : A := e ⟨⟩ ⟨⟩ ⟨b⟩
theorem zS {A B : Prop} (b : B) (e : Hid B → A := by intro bZ; simp only [push_cast, seval, ↓reduceIte, Zk, hN0, hN]; exact bZ.get) : A := e ⟨b⟩
theorem zRd {A B : Prop} (l0 : List Nat) (l1 : List Bool) (b : B) (e : Ar l0 → Ar l1 → Hid B → A := by intro x0 x1 bZ; refine Z3 Zy [] ?_; simp only [push_cast, seval, ↓reduceIte, Zk, hN0, hN]; refine Zgy x0.v x1.v ?_; simp only [push_cast, seval, ↓reduceIte, Ar.v]; exact bZ.get) : A := e ⟨⟩ ⟨⟩ ⟨b⟩
theorem zF6 {A B : Prop} {P0 : Prop} (p0 : P0) {P1 : Prop} (p1 : P1) {P2 : Prop} (p2 : P2) {P3 : Prop} (p3 : P3) {P4 : Prop} (p4 : P4) {P5 : Prop} (p5 : P5) (b : B) (e : P0 → P1 → P2 → P3 → P4 → P5 → Hid B → A := by intro x0 x1 x2 x3 x4 x5 bZ; simp only [push_cast, Nat.reduceAdd, Nat.reduceSub, Nat.reduceMul, Nat.reduceLeDiff, Nat.reduceLT, Nat.reduceEqDiff, ↓reduceIte, reduceCtorEq, Int.reduceBEq, Int.reduceBNe, Nat.reduceBEq, Int.reduceLE, Int.reduceLT, Int.reduceEq, Int.reduceNe, Int.reduceNeg, Nat.reduceDiv, Nat.reduceMod, Nat.reducePow, Zk, x0, x1, x2, x3, x4, x5, hN0, hN]; exact bZ.get) : A := e p0 p1 p2 p3 p4 p5 ⟨b⟩
theorem Z4p {A : Prop} {P0 : Prop} (p0 : P0) {P1 : Prop} (p1 : P1) {P2 : Prop} (p2 : P2) {P3 : Prop} (p3 : P3) {P4 : Prop} (p4 : P4) {P5 : Prop} (p5 : P5) (e : P0 → P1 → P2 → P3 → P4 → P5 → A := by intro x0 x1 x2 x3 x4 x5; refine And.intro rfl (Fit2.of (Yc hU rfl rfl ?_) (by omega)); simp only [push_cast, Nat.reduceAdd, Nat.reduceSub, Nat.reduceMul, Nat.reduceLeDiff, Nat.reduceLT, Nat.reduceEqDiff, ↓reduceIte, reduceCtorEq, Int.reduceBEq, Int.reduceBNe, Nat.reduceBEq, Int.reduceLE, Int.reduceLT, Int.reduceEq, Int.reduceNe, Int.reduceNeg, Nat.reduceDiv, Nat.reduceMod, Nat.reducePow, Zk, x0, x1, x2, x3, x4, x5, hN0, hN]) : A := e p0 p1 p2 p3 p4 p5
theorem Z4r {A : Prop} {P0 : Prop} (p0 : P0) {P1 : Prop} (p1 : P1) {P2 : Prop} (p2 : P2) {P3 : Prop} (p3 : P3) {P4 : Prop} (p4 : P4) {P5 : Prop} (p5 : P5) (e : P0 → P1 → P2 → P3 → P4 → P5 → A := by intro x0 x1 x2 x3 x4 x5; simp only [push_cast, Nat.reduceAdd, Nat.reduceSub, Nat.reduceMul, Nat.reduceLeDiff, Nat.reduceLT, Nat.reduceEqDiff, ↓reduceIte, reduceCtorEq, Int.reduceBEq, Int.reduceBNe, Nat.reduceBEq, Int.reduceLE, Int.reduceLT, Int.reduceEq, Int.reduceNe, Int.reduceNeg, Nat.reduceDiv, Nat.reduceMod, Nat.reducePow, Zk, x0, x1, x2, x3, x4, x5, hN0, hN]) : A := e p0 p1 p2 p3 p4 p5
theorem zO {A B : Prop} (b : B) (e : Hid B → A := by intro bZ; (repeat (with_reducible refine And.intro (by first | omega | exact Zg1 rfl | exact Zfk | exact Zu2 rfl | exact Zom rfl rfl | exact Zi6 rfl | exact Zol rfl) ?_)); exact bZ.get) : A := e ⟨b⟩
theorem zDs {A B : Prop} (l0 : List Nat) (l1 : List Bool) (b : B) (e : Ar l0 → Ar l1 → Hid B → A := by intro x0 x1 bZ; refine Zgy x0.v x1.v ?_; simp only [push_cast, seval, ↓reduceIte, Ar.v]; refine Zh ?_; exact bZ.get) : A := e ⟨⟩ ⟨⟩ ⟨b⟩
theorem zEy {A : Prop} {P0 : Prop} (p0 : P0) (e : P0 → A := by intro x0; have h9 := Option.some.inj x0; subst h9; refine And.intro (fun h => by cases h) (And.intro rfl (Fit2.of (Yc hU rfl rfl ?_) (by omega))); simp only [push_cast, seval, ↓reduceIte, Zk, hN0, hN]) : A := e p0
theorem Zyw {A : Prop} (l0 : List G) (e : Ar l0 → A := by intro x0; have h := Option.some.inj h; subst h; refine Zry (.inr rfl) hU x0.v (by omega) ?_; simp only [push_cast, seval, ↓reduceIte, Zk, Ar.v, hN0, hN]) : A := e ⟨⟩
theorem Yy {A : Prop} {P0 : Prop} (p0 : P0) {P1 : Prop} (p1 : P1) (e : P0 → P1 → A := by intro x0 x1; simp only [push_cast, seval, ↓reduceIte, Zk, x0, x1, hN0, hN]) : A := e p0 p1
theorem Qo {A B : Prop} (l0 : List Nat) {P1 : Prop} (p1 : P1) {P2 : Prop} (p2 : P2) (b : B) (e : Ar l0 → P1 → P2 → Hid B → A := by intro x0 x1 x2 bZ; refine Gc x0.v (Z3 Zy [] ?_); simp only [push_cast, seval, ↓reduceIte, Zk, Ar.v, x1, x2, hN0, hN]; exact bZ.get) : A := e ⟨⟩ p1 p2 ⟨b⟩
theorem zXt {A B : Prop} (b : B) (e : Hid B → A := by intro bZ; refine Zvv ?_; (try simp only [Xm, Yo, ↓reduceIte, Nat.reduceEqDiff]); exact bZ.get) : A := e ⟨b⟩
theorem Z13 {A B : Prop} (l0 : List (Option Bool)) {P1 : Prop} (p1 : P1) {P2 : Prop} (p2 : P2) {P3 : Prop} (p3 : P3) {P4 : Prop} (p4 : P4) {P5 : Prop} (p5 : P5) (b : B) (e : Ar l0 → P1 → P2 → P3 → P4 → P5 → Hid B → A := by intro x0 x1 x2 x3 x4 x5 bZ; refine Z3 Zy x0.v ?_; simp only [push_cast, Nat.reduceAdd, Nat.reduceSub, Nat.reduceMul, Nat.reduceLeDiff, Nat.reduceLT, Nat.reduceEqDiff, ↓reduceIte, reduceCtorEq, Int.reduceBEq, Int.reduceBNe, Nat.reduceBEq, Int.reduceLE, Int.reduceLT, Int.reduceEq, Int.reduceNe, Int.reduceNeg, Nat.reduceDiv, Nat.reduceMod, Nat.reducePow, Zk, Ar.v, x1, x2, x3, x4, x5, hN0, hN]; exact bZ.get) : A := e ⟨⟩ p1 p2 p3 p4 p5 ⟨b⟩
theorem zF5 {A B : Prop} {P0 : Prop} (p0 : P0) {P1 : Prop} (p1 : P1) {P2 : Prop} (p2 : P2) {P3 : Prop} (p3 : P3) {P4 : Prop} (p4 : P4) (b : B) (e : P0 → P1 → P2 → P3 → P4 → Hid B → A := by intro x0 x1 x2 x3 x4 bZ; simp only [push_cast, Nat.reduceAdd, Nat.reduceSub, Nat.reduceMul, Nat.reduceLeDiff, Nat.reduceLT, Nat.reduceEqDiff, ↓reduceIte, reduceCtorEq, Int.reduceBEq, Int.reduceBNe, Nat.reduceBEq, Int.reduceLE, Int.reduceLT, Int.reduceEq, Int.reduceNe, Int.reduceNeg, Nat.reduceDiv, Nat.reduceMod, Nat.reducePow, Zk, x0, x1, x2, x3, x4, hN0, hN]; exact bZ.get) : A := e p0 p1 p2 p3 p4 ⟨b⟩
theorem Z14 {A B : Prop} (l0 : List (Option Bool)) {P1 : Prop} (p1 : P1) {P2 : Prop} (p2 : P2) {P3 : Prop} (p3 : P3) {P4 : Prop} (p4 : P4) {P5 : Prop} (p5 : P5) {P6 : Prop} (p6 : P6) (b : B) (e : Ar l0 → P1 → P2 → P3 → P4 → P5 → P6 → Hid B → A := by intro x0 x1 x2 x3 x4 x5 x6 bZ; refine Z3 Zy x0.v ?_; simp only [push_cast, Nat.reduceAdd, Nat.reduceSub, Nat.reduceMul, Nat.reduceLeDiff, Nat.reduceLT, Nat.reduceEqDiff, ↓reduceIte, reduceCtorEq, Int.reduceBEq, Int.reduceBNe, Nat.reduceBEq, Int.reduceLE, Int.reduceLT, Int.reduceEq, Int.reduceNe, Int.reduceNeg, Nat.reduceDiv, Nat.reduceMod, Nat.reducePow, Zk, Ar.v, x1, x2, x3, x4, x5, x6, hN0, hN]; exact bZ.get) : A := e ⟨⟩ p1 p2 p3 p4 p5 p6 ⟨b⟩
theorem Zrt {A : Prop} {P0 : Prop} (p0 : P0) {P1 : Prop} (p1 : P1) {P2 : Prop} (p2 : P2) (e : P0 → P1 → P2 → A := by intro x0 x1 x2; simp only [push_cast, seval, ↓reduceIte, Zk, x0, x1, x2, hN0, hN]) : A := e p0 p1 p2
theorem zX5 {A B : Prop} {P0 : Prop} (p0 : P0) {P1 : Prop} (p1 : P1) {P2 : Prop} (p2 : P2) {P3 : Prop} (p3 : P3) {P4 : Prop} (p4 : P4) (b : B) (e : P0 → P1 → P2 → P3 → P4 → Hid B → A := by intro x0 x1 x2 x3 x4 bZ; simp only [push_cast, seval, ↓reduceIte, Zk, x0, x1, x2, x3, x4, hN0, hN]; exact bZ.get) : A := e p0 p1 p2 p3 p4 ⟨b⟩
theorem Zyy {A : Prop} {P0 : Prop} (p0 : P0) {P1 : Prop} (p1 : P1) {P2 : Prop} (p2 : P2) {P3 : Prop} (p3 : P3) {P4 : Prop} (p4 : P4) (e : P0 → P1 → P2 → P3 → P4 → A := by intro x0 x1 x2 x3 x4; simp only [push_cast, seval, ↓reduceIte, Zk, x0, x1, x2, x3, x4, hN0, hN]) : A := e p0 p1 p2 p3 p4
theorem Z11 {A B : Prop} (l0 : List (Option Bool)) {P1 : Prop} (p1 : P1) {P2 : Prop} (p2 : P2) {P3 : Prop} (p3 : P3) (b : B) (e : Ar l0 → P1 → P2 → P3 → Hid B → A := by intro x0 x1 x2 x3 bZ; refine Z3 Zy x0.v ?_; simp only [push_cast, Nat.reduceAdd, Nat.reduceSub, Nat.reduceMul, Nat.reduceLeDiff, Nat.reduceLT, Nat.reduceEqDiff, ↓reduceIte, reduceCtorEq, Int.reduceBEq, Int.reduceBNe, Nat.reduceBEq, Int.reduceLE, Int.reduceLT, Int.reduceEq, Int.reduceNe, Int.reduceNeg, Nat.reduceDiv, Nat.reduceMod, Nat.reducePow, Zk, Ar.v, x1, x2, x3, hN0, hN]; exact bZ.get) : A := e ⟨⟩ p1 p2 p3 ⟨b⟩
theorem Zuy {A B : Prop} (l0 : List (Option Bool)) {P1 : Prop} (p1 : P1) {P2 : Prop} (p2 : P2) {P3 : Prop} (p3 : P3) {P4 : Prop} (p4 : P4) {P5 : Prop} (p5 : P5) (b : B) (e : Ar l0 → P1 → P2 → P3 → P4 → P5 → Hid B → A := by intro x0 x1 x2 x3 x4 x5 bZ; refine Z3 Zy x0.v ?_; simp only [push_cast, seval, ↓reduceIte, Zk, Ar.v, x1, x2, x3, x4, x5, hN0, hN]; exact bZ.get) : A := e ⟨⟩ p1 p2 p3 p4 p5 ⟨b⟩
theorem Z4q {A : Prop} {P0 : Prop} (p0 : P0) {P1 : Prop} (p1 : P1) {P2 : Prop} (p2 : P2) {P3 : Prop} (p3 : P3) {P4 : Prop} (p4 : P4) (e : P0 → P1 → P2 → P3 → P4 → A := by intro x0 x1 x2 x3 x4; have h9 := Option.some.inj x0; subst h9; refine And.intro rfl (Fit2.of (Yc hU rfl rfl ?_) (by omega)); simp only [push_cast, Nat.reduceAdd, Nat.reduceSub, Nat.reduceMul, Nat.reduceLeDiff, Nat.reduceLT, Nat.reduceEqDiff, ↓reduceIte, reduceCtorEq, Int.reduceBEq, Int.reduceBNe, Nat.reduceBEq, Int.reduceLE, Int.reduceLT, Int.reduceEq, Int.reduceNe, Int.reduceNeg, Nat.reduceDiv, Nat.reduceMod, Nat.reducePow, Zk, x1, x2, x3, x4, hN0, hN]) : A := e p0 p1 p2 p3 p4
theorem Z4u {A B : Prop} (l0 : List (Option Bool)) {P1 : Prop} (p1 : P1) {P2 : Prop} (p2 : P2) {P3 : Prop} (p3 : P3) {P4 : Prop} (p4 : P4) {P5 : Prop} (p5 : P5) {P6 : Prop} (p6 : P6) {P7 : Prop} (p7 : P7) (b : B) (e : Ar l0 → P1 → P2 → P3 → P4 → P5 → P6 → P7 → Hid B → A := by intro x0 x1 x2 x3 x4 x5 x6 x7 bZ; refine Z3 Zy x0.v ?_; simp only [push_cast, seval, ↓reduceIte, Zk, Ar.v, x1, x2, x3, x4, x5, x6, x7, hN0, hN]; exact bZ.get) : A := e ⟨⟩ p1 p2 p3 p4 p5 p6 p7 ⟨b⟩
theorem Z10 {A : Prop} {P0 : Prop} (p0 : P0) {P1 : Prop} (p1 : P1) {P2 : Prop} (p2 : P2) {P3 : Prop} (p3 : P3) {P4 : Prop} (p4 : P4) {P5 : Prop} (p5 : P5) (e : P0 → P1 → P2 → P3 → P4 → P5 → A := by intro x0 x1 x2 x3 x4 x5; have h9 := Option.some.inj x0; subst h9; refine And.intro rfl (Fit2.of (Yc hU rfl rfl ?_) (by omega)); simp only [push_cast, seval, ↓reduceIte, Zk, x1, x2, x3, x4, x5, hN0, hN]) : A := e p0 p1 p2 p3 p4 p5
end Go.Proofs.Ytgffgbdnbjbmoaa
