/- Part UE of this seat's mirrors: functions of the seat's program, and the plain functions that they are; each theorem bears its own conditions. -/
import Derived.Test.YtmlhokaflhlhbaaTy
import Derived.Test.YtmlhokaflhlhbaaUD
namespace Go.Proofs.Ytmlhokaflhlhbaa
open Go.RowKit
set_option linter.unusedVariables false
set_option linter.unusedSimpArgs false
set_option maxRecDepth 100000
set_option maxHeartbeats 4000000
def Q5 (x : Z0) : List G := [.val (.int .i64 x.Depth), .val (.int .i64 x.Weight), .val (.int .i64 x.MaxD), .val (.int .i64 x.MaxOut)]
theorem Jf : ∀ x, G.pures ((eI .u64) x) = true := fun x => by simp [eI, eB, eS, eL, eP, G.pures, G.pure, Yp, V5]
theorem Zfp {O O' : Objs} {n : Nat} (xs : List Int) : Ud O O' n (fl (eI .u64) xs) (fl (eI .u64) xs) := Zcs (Yp Jf xs)
theorem Zfn {O O' : Objs} {n : Nat} (xs : List Int) (b b' : List G) : Ud O O' n (fl (eI .u64) xs ++ b) (fl (eI .u64) xs ++ b') = Ud O O' n b b' := Zbp b b' _ (Yp Jf xs)
theorem Zez (xs : List Int) : (fl (eI .u64) xs).length = xs.length * 1 := Ja (f := (eI .u64)) (k := 1) (fun _ => rfl) xs
theorem Ze5 (xs : List Int) : (fl (eI .u64) xs).all G.one = true := Un (fun x => by simp [eI, eB, eS, eL, eP, Zck, G.one, Value.oneCell']) xs
theorem Zfr {O O' : Objs} {n : Nat} (x : Option Int) : wk O O' n (gP (eI .u64) x) (gP (eI .u64) x) = True := Zo3 Jf x
theorem Zdk {k : Nat} (x : Option Int) : (gP (eI .u64) x).under k = true := Zbo Jf k x
theorem Zdh {ρ : Nat → Nat} (xs : List Int) : G.rens ρ (fl (eI .u64) xs) = fl (eI .u64) xs := Jz ρ _ (Yp Jf xs)
theorem Zdf {ρ : Nat → Nat} (x : Option Int) : (gP (eI .u64) x).ren ρ = gP (eI .u64) x := Zap ρ _ (V5 Jf x)
theorem Zfl {k : Nat} (xs : List Int) : G.unders k (fl (eI .u64) xs) = true := Xj _ _ (Yp Jf xs)
theorem Xy : ∀ x, G.pures ((eL (eI .u64)) x) = true := fun x => by simp [eI, eB, eS, eL, eP, G.pures, G.pure, Yp, V5, Jf]
theorem Zbd {O O' : Objs} {n : Nat} (xs : List (List Int)) : Ud O O' n (fl (eL (eI .u64)) xs) (fl (eL (eI .u64)) xs) := Zcs (Yp Xy xs)
theorem Zbc {O O' : Objs} {n : Nat} (xs : List (List Int)) (b b' : List G) : Ud O O' n (fl (eL (eI .u64)) xs ++ b) (fl (eL (eI .u64)) xs ++ b') = Ud O O' n b b' := Zbp b b' _ (Yp Xy xs)
theorem Za8 (xs : List (List Int)) : (fl (eL (eI .u64)) xs).length = xs.length * 1 := Ja (f := (eL (eI .u64))) (k := 1) (fun _ => rfl) xs
theorem Za9 (xs : List (List Int)) : (fl (eL (eI .u64)) xs).all G.one = true := Un (fun x => by simp [eI, eB, eS, eL, eP, Zck, G.one, Value.oneCell']) xs
theorem Zbe {O O' : Objs} {n : Nat} (x : Option (List Int)) : wk O O' n (gP (eL (eI .u64)) x) (gP (eL (eI .u64)) x) = True := Zo3 Xy x
theorem Zax {k : Nat} (x : Option (List Int)) : (gP (eL (eI .u64)) x).under k = true := Zbo Xy k x
theorem Zar {ρ : Nat → Nat} (xs : List (List Int)) : G.rens ρ (fl (eL (eI .u64)) xs) = fl (eL (eI .u64)) xs := Jz ρ _ (Yp Xy xs)
theorem Zaq {ρ : Nat → Nat} (x : Option (List Int)) : (gP (eL (eI .u64)) x).ren ρ = gP (eL (eI .u64)) x := Zap ρ _ (V5 Xy x)
theorem Zbb {k : Nat} (xs : List (List Int)) : G.unders k (fl (eL (eI .u64)) xs) = true := Xj _ _ (Yp Xy xs)
def Zn (x : Zm) : List G := [.sl x.segments.length (fl (eL (eI .u64)) x.segments), .val (.int .i64 x.size), .val (.int .i64 x.left)]
theorem Yv : ∀ x, G.pures (Zn x) = true := fun x => by simp [eI, eB, eS, eL, eP, G.pures, G.pure, Yp, V5, Zn, Jf, Xy]
theorem Vi {O O' : Objs} {n : Nat} (xs : List Zm) : Ud O O' n (fl Zn xs) (fl Zn xs) := Zcs (Yp Yv xs)
theorem Vh {O O' : Objs} {n : Nat} (xs : List Zm) (b b' : List G) : Ud O O' n (fl Zn xs ++ b) (fl Zn xs ++ b') = Ud O O' n b b' := Zbp b b' _ (Yp Yv xs)
theorem Vd (xs : List Zm) : (fl Zn xs).length = xs.length * 3 := Ja (f := Zn) (k := 3) (fun _ => rfl) xs
theorem Vf (xs : List Zm) : (fl Zn xs).all G.one = true := Un (fun x => by simp [eI, eB, eS, eL, eP, Zck, G.one, Value.oneCell', Zn]) xs
theorem Vj {O O' : Objs} {n : Nat} (x : Option Zm) : wk O O' n (gP Zn x) (gP Zn x) = True := Zo3 Yv x
theorem K4 {k : Nat} (x : Option Zm) : (gP Zn x).under k = true := Zbo Yv k x
theorem K2 {ρ : Nat → Nat} (xs : List Zm) : G.rens ρ (fl Zn xs) = fl Zn xs := Jz ρ _ (Yp Yv xs)
theorem K1 {ρ : Nat → Nat} (x : Option Zm) : (gP Zn x).ren ρ = gP Zn x := Zap ρ _ (V5 Yv x)
theorem Vg {k : Nat} (xs : List Zm) : G.unders k (fl Zn xs) = true := Xj _ _ (Yp Yv xs)
def Zc5 (x : Z9) : List G := [.val (.int .i64 x.Kind), .val (.int .i64 x.Off), .val (.int .i64 x.Data), .val (.int .i64 x.Ptrs), .val (.int .i64 x.Code), .val (.int .i64 x.Count), .val (.int .i64 x.Segment), .val (.bool x.Double)]
theorem Uc : ∀ x, G.pures ((eI .i64) x) = true := fun x => by simp [eI, eB, eS, eL, eP, G.pures, G.pure, Yp, V5, Jf, Xy, Yv]
theorem Zfo {O O' : Objs} {n : Nat} (xs : List Int) : Ud O O' n (fl (eI .i64) xs) (fl (eI .i64) xs) := Zcs (Yp Uc xs)
theorem Zfm {O O' : Objs} {n : Nat} (xs : List Int) (b b' : List G) : Ud O O' n (fl (eI .i64) xs ++ b) (fl (eI .i64) xs ++ b') = Ud O O' n b b' := Zbp b b' _ (Yp Uc xs)
theorem Zey (xs : List Int) : (fl (eI .i64) xs).length = xs.length * 1 := Ja (f := (eI .i64)) (k := 1) (fun _ => rfl) xs
theorem Ze4 (xs : List Int) : (fl (eI .i64) xs).all G.one = true := Un (fun x => by simp [eI, eB, eS, eL, eP, Zck, G.one, Value.oneCell']) xs
theorem Zfq {O O' : Objs} {n : Nat} (x : Option Int) : wk O O' n (gP (eI .i64) x) (gP (eI .i64) x) = True := Zo3 Uc x
theorem Zdj {k : Nat} (x : Option Int) : (gP (eI .i64) x).under k = true := Zbo Uc k x
theorem Zdg {ρ : Nat → Nat} (xs : List Int) : G.rens ρ (fl (eI .i64) xs) = fl (eI .i64) xs := Jz ρ _ (Yp Uc xs)
theorem Zde {ρ : Nat → Nat} (x : Option Int) : (gP (eI .i64) x).ren ρ = gP (eI .i64) x := Zap ρ _ (V5 Uc x)
theorem Zfk {k : Nat} (xs : List Int) : G.unders k (fl (eI .i64) xs) = true := Xj _ _ (Yp Uc xs)
def Zc4 (x : Y4) : List G := [.val (.int .i64 x.P.Kind), .val (.int .i64 x.P.Off), .val (.int .i64 x.P.Data), .val (.int .i64 x.P.Ptrs), .val (.int .i64 x.P.Code), .val (.int .i64 x.P.Count), .val (.int .i64 x.P.Segment), .val (.bool x.P.Double), .val (.int .i64 x.Segment), .val (.int .i64 x.At)]
def Gz (x : Zd) : List G := [(gP Zn x.a), .val (.int .i64 x.kind), .val (.int .i64 x.segment), .val (.int .i64 x.at_), .val (.int .i64 x.words), .val (.int .i64 x.ptrs), .val (.int .i64 x.count), .val (.int .i64 x.code), .val (.int .i64 x.index)]
def Z8 (x : Ze) : List G := [.val (.int .i64 x.left)]
theorem Y0 : ∀ x, G.pures (Z8 x) = true := fun x => by simp [eI, eB, eS, eL, eP, G.pures, G.pure, Yp, V5, Z8, Jf, Xy, Yv, Uc]
theorem Kk {O O' : Objs} {n : Nat} (xs : List Ze) : Ud O O' n (fl Z8 xs) (fl Z8 xs) := Zcs (Yp Y0 xs)
theorem Kj {O O' : Objs} {n : Nat} (xs : List Ze) (b b' : List G) : Ud O O' n (fl Z8 xs ++ b) (fl Z8 xs ++ b') = Ud O O' n b b' := Zbp b b' _ (Yp Y0 xs)
theorem Ke (xs : List Ze) : (fl Z8 xs).length = xs.length * 1 := Ja (f := Z8) (k := 1) (fun _ => rfl) xs
theorem Kh (xs : List Ze) : (fl Z8 xs).all G.one = true := Un (fun x => by simp [eI, eB, eS, eL, eP, Zck, G.one, Value.oneCell', Z8]) xs
theorem Kl {O O' : Objs} {n : Nat} (x : Option Ze) : wk O O' n (gP Z8 x) (gP Z8 x) = True := Zo3 Y0 x
theorem Jw {k : Nat} (x : Option Ze) : (gP Z8 x).under k = true := Zbo Y0 k x
theorem Jv {ρ : Nat → Nat} (xs : List Ze) : G.rens ρ (fl Z8 xs) = fl Z8 xs := Jz ρ _ (Yp Y0 xs)
theorem Ju {ρ : Nat → Nat} (x : Option Ze) : (gP Z8 x).ren ρ = gP Z8 x := Zap ρ _ (V5 Y0 x)
theorem Ki {k : Nat} (xs : List Ze) : G.unders k (fl Z8 xs) = true := Xj _ _ (Yp Y0 xs)
def Z5 (x : Zv) : List G := [.val (.int .i64 x.left)]
mutual
def K5 : S_api_Tree → List G
 | ⟨f0, f1, f2⟩ => [.val (.int .i64 f0), .sl f1.length (fl (eI .u64) f1), .sl f2.length (K6 f2)]
def K6 : List S_api_Tree → List G
 | [] => []
 | x :: xs => K5 x ++ K6 xs
end
theorem Zdu : ∀ xs, K6 xs = fl K5 xs
 | [] => by simp [K6, fl]
 | x :: xs => by rw [K6, Vc, Zdu xs]
def Zj (x : S_api_Tree) : List G := [.val (.int .i64 x.Kind), .sl x.Words.length (fl (eI .u64) x.Words), .sl x.Kids.length (fl K5 x.Kids)]
theorem Qt : K5 = Zj := by
 funext x
 obtain ⟨_, _, _⟩ := x
 simp only [K5, Zdu, Zj, List.cons_append, List.nil_append, List.append_nil]
mutual
theorem Zgp : ∀ x, G.pures (K5 x) = true
 | ⟨f0, f1, f2⟩ => by simp [K5, eP, V5, eI, eB, eS, eL, G.pures, G.pure, Zhc, Yp, Zfx f2, Jf, Xy, Yv, Uc, Y0]
theorem Zfx : ∀ xs, G.pures (K6 xs) = true
 | [] => rfl
 | x :: xs => by simp [K6, Zhc, Zgp x, Zfx xs]
end
theorem Qq : ∀ x, G.pures (Zj x) = true := fun x => by rw [← Qt]; exact Zgp x
theorem U8 {O O' : Objs} {n : Nat} (xs : List S_api_Tree) : Ud O O' n (fl Zj xs) (fl Zj xs) := Zcs (Yp Qq xs)
theorem U7 {O O' : Objs} {n : Nat} (xs : List S_api_Tree) (b b' : List G) : Ud O O' n (fl Zj xs ++ b) (fl Zj xs ++ b') = Ud O O' n b b' := Zbp b b' _ (Yp Qq xs)
theorem U1 (xs : List S_api_Tree) : (fl Zj xs).length = xs.length * 3 := Ja (f := Zj) (k := 3) (fun _ => rfl) xs
theorem U5 (xs : List S_api_Tree) : (fl Zj xs).all G.one = true := Un (fun x => by simp [eI, eB, eS, eL, eP, Zck, G.one, Value.oneCell', Zj]) xs
theorem U9 {O O' : Objs} {n : Nat} (x : Option S_api_Tree) : wk O O' n (gP Zj x) (gP Zj x) = True := Zo3 Qq x
theorem Ul {k : Nat} (x : Option S_api_Tree) : (gP Zj x).under k = true := Zbo Qq k x
theorem Uk {ρ : Nat → Nat} (xs : List S_api_Tree) : G.rens ρ (fl Zj xs) = fl Zj xs := Jz ρ _ (Yp Qq xs)
theorem Uj {ρ : Nat → Nat} (x : Option S_api_Tree) : (gP Zj x).ren ρ = gP Zj x := Zap ρ _ (V5 Qq x)
theorem U6 {k : Nat} (xs : List S_api_Tree) : G.unders k (fl Zj xs) = true := Xj _ _ (Yp Qq xs)
theorem Xd : ∀ x, G.pures (Z5 x) = true := fun x => by simp [eI, eB, eS, eL, eP, G.pures, G.pure, Yp, V5, Z5, Jf, Xy, Yv, Uc, Y0, Qq, Qt]
theorem Jk {O O' : Objs} {n : Nat} (xs : List Zv) : Ud O O' n (fl Z5 xs) (fl Z5 xs) := Zcs (Yp Xd xs)
theorem Jj {O O' : Objs} {n : Nat} (xs : List Zv) (b b' : List G) : Ud O O' n (fl Z5 xs ++ b) (fl Z5 xs ++ b') = Ud O O' n b b' := Zbp b b' _ (Yp Xd xs)
theorem Jb (xs : List Zv) : (fl Z5 xs).length = xs.length * 1 := Ja (f := Z5) (k := 1) (fun _ => rfl) xs
theorem Jd (xs : List Zv) : (fl Z5 xs).all G.one = true := Un (fun x => by simp [eI, eB, eS, eL, eP, Zck, G.one, Value.oneCell', Z5]) xs
theorem Jm {O O' : Objs} {n : Nat} (x : Option Zv) : wk O O' n (gP Z5 x) (gP Z5 x) = True := Zo3 Xd x
theorem Q2 {k : Nat} (x : Option Zv) : (gP Z5 x).under k = true := Zbo Xd k x
theorem Q1 {ρ : Nat → Nat} (xs : List Zv) : G.rens ρ (fl Z5 xs) = fl Z5 xs := Jz ρ _ (Yp Xd xs)
theorem Q0 {ρ : Nat → Nat} (x : Option Zv) : (gP Z5 x).ren ρ = gP Z5 x := Zap ρ _ (V5 Xd x)
theorem Ji {k : Nat} (xs : List Zv) : G.unders k (fl Z5 xs) = true := Xj _ _ (Yp Xd xs)
def Vz (x : Z7) : List G := [.val (.int .i64 x.P.Kind), .val (.int .i64 x.P.Off), .val (.int .i64 x.P.Data), .val (.int .i64 x.P.Ptrs), .val (.int .i64 x.P.Code), .val (.int .i64 x.P.Count), .val (.int .i64 x.P.Segment), .val (.bool x.P.Double), .val (.int .i64 x.Segment), .val (.int .i64 x.At)]
def V0 (x : Zo) : List G := [.val (.int .i64 x.Kind), .val (.int .i64 x.S), .val (.int .i64 x.At), .val (.int .i64 x.Data), .val (.int .i64 x.Ptrs), .val (.int .i64 x.Count), .val (.int .u64 x.N)]
def Zk (x : Zd) : List G := [(gP Zn x.a), .val (.int .i64 x.kind), .val (.int .i64 x.segment), .val (.int .i64 x.at_), .val (.int .i64 x.words), .val (.int .i64 x.ptrs), .val (.int .i64 x.count), .val (.int .i64 x.code), .val (.int .i64 x.index)]
def Yn (x : Z9) : List G := [.val (.int .i64 x.Kind), .val (.int .i64 x.Off), .val (.int .i64 x.Data), .val (.int .i64 x.Ptrs), .val (.int .i64 x.Code), .val (.int .i64 x.Count), .val (.int .i64 x.Segment), .val (.bool x.Double)]
def Zr (x : Zo) : List G := [.val (.int .i64 x.Kind), .val (.int .i64 x.S), .val (.int .i64 x.At), .val (.int .i64 x.Data), .val (.int .i64 x.Ptrs), .val (.int .i64 x.Count), .val (.int .u64 x.N)]
def Zp (x : S_api_Tree) : List G := [.val (.int .i64 x.Kind), .sl x.Words.length (fl (eI .u64) x.Words), .sl x.Kids.length (fl Zj x.Kids)]
def Yj (x : Z0) : List G := [.val (.int .i64 x.Depth), .val (.int .i64 x.Weight), .val (.int .i64 x.MaxD), .val (.int .i64 x.MaxOut)]
end Go.Proofs.Ytmlhokaflhlhbaa
