/- Part UE of this seat's mirrors: functions of the seat's program, and the plain functions that they are; each theorem bears its own conditions. -/
import Derived.Test.YtmlhokaflhlhbaaTy
import Derived.Test.YtmlhokaflhlhbaaUD
namespace Go.Proofs.Ytmlhokaflhlhbaa
open Go.RowKit
set_option linter.unusedVariables false
set_option linter.unusedSimpArgs false
set_option maxRecDepth 100000
set_option maxHeartbeats 4000000
def Q1 (x : Z0) : List G := [.val (.int .i64 x.Depth), .val (.int .i64 x.Weight), .val (.int .i64 x.MaxD), .val (.int .i64 x.MaxOut)]
theorem Ja : ∀ x, G.pures ((eI .u64) x) = true := fun x => by simp [eI, eB, eS, eL, eP, G.pures, G.pure, Yp, V0]
theorem Zfe {O O' : Objs} {n : Nat} (xs : List Int) : V8 O O' n (fl (eI .u64) xs) (fl (eI .u64) xs) := Zci (Yp Ja xs)
theorem Zfc {O O' : Objs} {n : Nat} (xs : List Int) (b b' : List G) : V8 O O' n (fl (eI .u64) xs ++ b) (fl (eI .u64) xs ++ b') = V8 O O' n b b' := Zbf b b' _ (Yp Ja xs)
theorem Zep (xs : List Int) : (fl (eI .u64) xs).length = xs.length * 1 := Q5 (f := (eI .u64)) (k := 1) (fun _ => rfl) xs
theorem Zev (xs : List Int) : (fl (eI .u64) xs).all G.one = true := Ug (fun x => by simp [eI, eB, eS, eL, eP, Zca, G.one, Value.oneCell']) xs
theorem Zfg {O O' : Objs} {n : Nat} (x : Option Int) : wk O O' n (gP (eI .u64) x) (gP (eI .u64) x) = True := Zon Ja x
theorem Zdb {k : Nat} (x : Option Int) : (gP (eI .u64) x).under k = true := Zbe Ja k x
theorem Zc7 {ρ : Nat → Nat} (xs : List Int) : G.rens ρ (fl (eI .u64) xs) = fl (eI .u64) xs := Js ρ _ (Yp Ja xs)
theorem Zc5 {ρ : Nat → Nat} (x : Option Int) : (gP (eI .u64) x).ren ρ = gP (eI .u64) x := Zae ρ _ (V0 Ja x)
theorem Zfa {k : Nat} (xs : List Int) : G.unders k (fl (eI .u64) xs) = true := Xh _ _ (Yp Ja xs)
theorem Xu : ∀ x, G.pures ((eL (eI .u64)) x) = true := fun x => by simp [eI, eB, eS, eL, eP, G.pures, G.pure, Yp, V0, Ja]
theorem Za3 {O O' : Objs} {n : Nat} (xs : List (List Int)) : V8 O O' n (fl (eL (eI .u64)) xs) (fl (eL (eI .u64)) xs) := Zci (Yp Xu xs)
theorem Za2 {O O' : Objs} {n : Nat} (xs : List (List Int)) (b b' : List G) : V8 O O' n (fl (eL (eI .u64)) xs ++ b) (fl (eL (eI .u64)) xs ++ b') = V8 O O' n b b' := Zbf b b' _ (Yp Xu xs)
theorem Zay (xs : List (List Int)) : (fl (eL (eI .u64)) xs).length = xs.length * 1 := Q5 (f := (eL (eI .u64))) (k := 1) (fun _ => rfl) xs
theorem Zaz (xs : List (List Int)) : (fl (eL (eI .u64)) xs).all G.one = true := Ug (fun x => by simp [eI, eB, eS, eL, eP, Zca, G.one, Value.oneCell']) xs
theorem Za4 {O O' : Objs} {n : Nat} (x : Option (List Int)) : wk O O' n (gP (eL (eI .u64)) x) (gP (eL (eI .u64)) x) = True := Zon Xu x
theorem Zam {k : Nat} (x : Option (List Int)) : (gP (eL (eI .u64)) x).under k = true := Zbe Xu k x
theorem Zag {ρ : Nat → Nat} (xs : List (List Int)) : G.rens ρ (fl (eL (eI .u64)) xs) = fl (eL (eI .u64)) xs := Js ρ _ (Yp Xu xs)
theorem Zaf {ρ : Nat → Nat} (x : Option (List Int)) : (gP (eL (eI .u64)) x).ren ρ = gP (eL (eI .u64)) x := Zae ρ _ (V0 Xu x)
theorem Za1 {k : Nat} (xs : List (List Int)) : G.unders k (fl (eL (eI .u64)) xs) = true := Xh _ _ (Yp Xu xs)
def Zn (x : Zm) : List G := [.sl x.segments.length (fl (eL (eI .u64)) x.segments), .val (.int .i64 x.size), .val (.int .i64 x.left)]
theorem Yv : ∀ x, G.pures (Zn x) = true := fun x => by simp [eI, eB, eS, eL, eP, G.pures, G.pure, Yp, V0, Zn, Ja, Xu]
theorem Vb {O O' : Objs} {n : Nat} (xs : List Zm) : V8 O O' n (fl Zn xs) (fl Zn xs) := Zci (Yp Yv xs)
theorem Va {O O' : Objs} {n : Nat} (xs : List Zm) (b b' : List G) : V8 O O' n (fl Zn xs ++ b) (fl Zn xs ++ b') = V8 O O' n b b' := Zbf b b' _ (Yp Yv xs)
theorem K6 (xs : List Zm) : (fl Zn xs).length = xs.length * 3 := Q5 (f := Zn) (k := 3) (fun _ => rfl) xs
theorem K8 (xs : List Zm) : (fl Zn xs).all G.one = true := Ug (fun x => by simp [eI, eB, eS, eL, eP, Zca, G.one, Value.oneCell', Zn]) xs
theorem Vc {O O' : Objs} {n : Nat} (x : Option Zm) : wk O O' n (gP Zn x) (gP Zn x) = True := Zon Yv x
theorem Kv {k : Nat} (x : Option Zm) : (gP Zn x).under k = true := Zbe Yv k x
theorem Kt {ρ : Nat → Nat} (xs : List Zm) : G.rens ρ (fl Zn xs) = fl Zn xs := Js ρ _ (Yp Yv xs)
theorem Ks {ρ : Nat → Nat} (x : Option Zm) : (gP Zn x).ren ρ = gP Zn x := Zae ρ _ (V0 Yv x)
theorem K9 {k : Nat} (xs : List Zm) : G.unders k (fl Zn xs) = true := Xh _ _ (Yp Yv xs)
def Zcv (x : Z9) : List G := [.val (.int .i64 x.Kind), .val (.int .i64 x.Off), .val (.int .i64 x.Data), .val (.int .i64 x.Ptrs), .val (.int .i64 x.Code), .val (.int .i64 x.Count), .val (.int .i64 x.Segment), .val (.bool x.Double)]
theorem V7 : ∀ x, G.pures ((eI .i64) x) = true := fun x => by simp [eI, eB, eS, eL, eP, G.pures, G.pure, Yp, V0, Ja, Xu, Yv]
theorem Zfd {O O' : Objs} {n : Nat} (xs : List Int) : V8 O O' n (fl (eI .i64) xs) (fl (eI .i64) xs) := Zci (Yp V7 xs)
theorem Zfb {O O' : Objs} {n : Nat} (xs : List Int) (b b' : List G) : V8 O O' n (fl (eI .i64) xs ++ b) (fl (eI .i64) xs ++ b') = V8 O O' n b b' := Zbf b b' _ (Yp V7 xs)
theorem Zeo (xs : List Int) : (fl (eI .i64) xs).length = xs.length * 1 := Q5 (f := (eI .i64)) (k := 1) (fun _ => rfl) xs
theorem Zeu (xs : List Int) : (fl (eI .i64) xs).all G.one = true := Ug (fun x => by simp [eI, eB, eS, eL, eP, Zca, G.one, Value.oneCell']) xs
theorem Zff {O O' : Objs} {n : Nat} (x : Option Int) : wk O O' n (gP (eI .i64) x) (gP (eI .i64) x) = True := Zon V7 x
theorem Zda {k : Nat} (x : Option Int) : (gP (eI .i64) x).under k = true := Zbe V7 k x
theorem Zc6 {ρ : Nat → Nat} (xs : List Int) : G.rens ρ (fl (eI .i64) xs) = fl (eI .i64) xs := Js ρ _ (Yp V7 xs)
theorem Zc4 {ρ : Nat → Nat} (x : Option Int) : (gP (eI .i64) x).ren ρ = gP (eI .i64) x := Zae ρ _ (V0 V7 x)
theorem Ze9 {k : Nat} (xs : List Int) : G.unders k (fl (eI .i64) xs) = true := Xh _ _ (Yp V7 xs)
def Zcu (x : Y3) : List G := [.val (.int .i64 x.P.Kind), .val (.int .i64 x.P.Off), .val (.int .i64 x.P.Data), .val (.int .i64 x.P.Ptrs), .val (.int .i64 x.P.Code), .val (.int .i64 x.P.Count), .val (.int .i64 x.P.Segment), .val (.bool x.P.Double), .val (.int .i64 x.Segment), .val (.int .i64 x.At)]
def Gp (x : Zd) : List G := [(gP Zn x.a), .val (.int .i64 x.kind), .val (.int .i64 x.segment), .val (.int .i64 x.at_), .val (.int .i64 x.words), .val (.int .i64 x.ptrs), .val (.int .i64 x.count), .val (.int .i64 x.code), .val (.int .i64 x.index)]
def Z8 (x : Ze) : List G := [.val (.int .i64 x.left)]
theorem Yz : ∀ x, G.pures (Z8 x) = true := fun x => by simp [eI, eB, eS, eL, eP, G.pures, G.pure, Yp, V0, Z8, Ja, Xu, Yv, V7]
theorem Kb {O O' : Objs} {n : Nat} (xs : List Ze) : V8 O O' n (fl Z8 xs) (fl Z8 xs) := Zci (Yp Yz xs)
theorem Ka {O O' : Objs} {n : Nat} (xs : List Ze) (b b' : List G) : V8 O O' n (fl Z8 xs ++ b) (fl Z8 xs ++ b') = V8 O O' n b b' := Zbf b b' _ (Yp Yz xs)
theorem J5 (xs : List Ze) : (fl Z8 xs).length = xs.length * 1 := Q5 (f := Z8) (k := 1) (fun _ => rfl) xs
theorem J8 (xs : List Ze) : (fl Z8 xs).all G.one = true := Ug (fun x => by simp [eI, eB, eS, eL, eP, Zca, G.one, Value.oneCell', Z8]) xs
theorem Kc {O O' : Objs} {n : Nat} (x : Option Ze) : wk O O' n (gP Z8 x) (gP Z8 x) = True := Zon Yz x
theorem Jq {k : Nat} (x : Option Ze) : (gP Z8 x).under k = true := Zbe Yz k x
theorem Jp {ρ : Nat → Nat} (xs : List Ze) : G.rens ρ (fl Z8 xs) = fl Z8 xs := Js ρ _ (Yp Yz xs)
theorem Jo {ρ : Nat → Nat} (x : Option Ze) : (gP Z8 x).ren ρ = gP Z8 x := Zae ρ _ (V0 Yz x)
theorem J9 {k : Nat} (xs : List Ze) : G.unders k (fl Z8 xs) = true := Xh _ _ (Yp Yz xs)
def Z5 (x : Zt) : List G := [.val (.int .i64 x.left)]
mutual
def Kw : S_api_Tree → List G
 | ⟨f0, f1, f2⟩ => [.val (.int .i64 f0), .sl f1.length (fl (eI .u64) f1), .sl f2.length (Kx f2)]
def Kx : List S_api_Tree → List G
 | [] => []
 | x :: xs => Kw x ++ Kx xs
end
theorem Zdm : ∀ xs, Kx xs = fl Kw xs
 | [] => by simp [Kx, fl]
 | x :: xs => by rw [Kx, K5, Zdm xs]
def Zk (x : S_api_Tree) : List G := [.val (.int .i64 x.Kind), .sl x.Words.length (fl (eI .u64) x.Words), .sl x.Kids.length (fl Kw x.Kids)]
theorem Qq : Kw = Zk := by
 funext x
 obtain ⟨_, _, _⟩ := x
 simp only [Kw, Zdm, Zk, List.cons_append, List.nil_append, List.append_nil]
mutual
theorem Zga : ∀ x, G.pures (Kw x) = true
 | ⟨f0, f1, f2⟩ => by simp [Kw, eP, V0, eI, eB, eS, eL, G.pures, G.pure, Zgy, Yp, Zfm f2, Ja, Xu, Yv, V7, Yz]
theorem Zfm : ∀ xs, G.pures (Kx xs) = true
 | [] => rfl
 | x :: xs => by simp [Kx, Zgy, Zga x, Zfm xs]
end
theorem Qn : ∀ x, G.pures (Zk x) = true := fun x => by rw [← Qq]; exact Zga x
theorem Uy {O O' : Objs} {n : Nat} (xs : List S_api_Tree) : V8 O O' n (fl Zk xs) (fl Zk xs) := Zci (Yp Qn xs)
theorem Ux {O O' : Objs} {n : Nat} (xs : List S_api_Tree) (b b' : List G) : V8 O O' n (fl Zk xs ++ b) (fl Zk xs ++ b') = V8 O O' n b b' := Zbf b b' _ (Yp Qn xs)
theorem Ur (xs : List S_api_Tree) : (fl Zk xs).length = xs.length * 3 := Q5 (f := Zk) (k := 3) (fun _ => rfl) xs
theorem Uv (xs : List S_api_Tree) : (fl Zk xs).all G.one = true := Ug (fun x => by simp [eI, eB, eS, eL, eP, Zca, G.one, Value.oneCell', Zk]) xs
theorem Uz {O O' : Objs} {n : Nat} (x : Option S_api_Tree) : wk O O' n (gP Zk x) (gP Zk x) = True := Zon Qn x
theorem Uf {k : Nat} (x : Option S_api_Tree) : (gP Zk x).under k = true := Zbe Qn k x
theorem Ue {ρ : Nat → Nat} (xs : List S_api_Tree) : G.rens ρ (fl Zk xs) = fl Zk xs := Js ρ _ (Yp Qn xs)
theorem Ud {ρ : Nat → Nat} (x : Option S_api_Tree) : (gP Zk x).ren ρ = gP Zk x := Zae ρ _ (V0 Qn x)
theorem Uw {k : Nat} (xs : List S_api_Tree) : G.unders k (fl Zk xs) = true := Xh _ _ (Yp Qn xs)
theorem Xb : ∀ x, G.pures (Z5 x) = true := fun x => by simp [eI, eB, eS, eL, eP, G.pures, G.pure, Yp, V0, Z5, Ja, Xu, Yv, V7, Yz, Qn, Qq]
theorem Je {O O' : Objs} {n : Nat} (xs : List Zt) : V8 O O' n (fl Z5 xs) (fl Z5 xs) := Zci (Yp Xb xs)
theorem Jd {O O' : Objs} {n : Nat} (xs : List Zt) (b b' : List G) : V8 O O' n (fl Z5 xs ++ b) (fl Z5 xs ++ b') = V8 O O' n b b' := Zbf b b' _ (Yp Xb xs)
theorem Q6 (xs : List Zt) : (fl Z5 xs).length = xs.length * 1 := Q5 (f := Z5) (k := 1) (fun _ => rfl) xs
theorem Q8 (xs : List Zt) : (fl Z5 xs).all G.one = true := Ug (fun x => by simp [eI, eB, eS, eL, eP, Zca, G.one, Value.oneCell', Z5]) xs
theorem Jg {O O' : Objs} {n : Nat} (x : Option Zt) : wk O O' n (gP Z5 x) (gP Z5 x) = True := Zon Xb x
theorem Qy {k : Nat} (x : Option Zt) : (gP Z5 x).under k = true := Zbe Xb k x
theorem Qx {ρ : Nat → Nat} (xs : List Zt) : G.rens ρ (fl Z5 xs) = fl Z5 xs := Js ρ _ (Yp Xb xs)
theorem Qw {ρ : Nat → Nat} (x : Option Zt) : (gP Z5 x).ren ρ = gP Z5 x := Zae ρ _ (V0 Xb x)
theorem Jc {k : Nat} (xs : List Zt) : G.unders k (fl Z5 xs) = true := Xh _ _ (Yp Xb xs)
def Vu (x : Z7) : List G := [.val (.int .i64 x.P.Kind), .val (.int .i64 x.P.Off), .val (.int .i64 x.P.Data), .val (.int .i64 x.P.Ptrs), .val (.int .i64 x.P.Code), .val (.int .i64 x.P.Count), .val (.int .i64 x.P.Segment), .val (.bool x.P.Double), .val (.int .i64 x.Segment), .val (.int .i64 x.At)]
def Vv (x : Zo) : List G := [.val (.int .i64 x.Kind), .val (.int .i64 x.S), .val (.int .i64 x.At), .val (.int .i64 x.Data), .val (.int .i64 x.Ptrs), .val (.int .i64 x.Count), .val (.int .u64 x.N)]
def Zj (x : Zd) : List G := [(gP Zn x.a), .val (.int .i64 x.kind), .val (.int .i64 x.segment), .val (.int .i64 x.at_), .val (.int .i64 x.words), .val (.int .i64 x.ptrs), .val (.int .i64 x.count), .val (.int .i64 x.code), .val (.int .i64 x.index)]
def Yn (x : Z9) : List G := [.val (.int .i64 x.Kind), .val (.int .i64 x.Off), .val (.int .i64 x.Data), .val (.int .i64 x.Ptrs), .val (.int .i64 x.Code), .val (.int .i64 x.Count), .val (.int .i64 x.Segment), .val (.bool x.Double)]
def Zp (x : Zo) : List G := [.val (.int .i64 x.Kind), .val (.int .i64 x.S), .val (.int .i64 x.At), .val (.int .i64 x.Data), .val (.int .i64 x.Ptrs), .val (.int .i64 x.Count), .val (.int .u64 x.N)]
def Zz (x : S_api_Tree) : List G := [.val (.int .i64 x.Kind), .sl x.Words.length (fl (eI .u64) x.Words), .sl x.Kids.length (fl Zk x.Kids)]
def Yj (x : Z0) : List G := [.val (.int .i64 x.Depth), .val (.int .i64 x.Weight), .val (.int .i64 x.MaxD), .val (.int .i64 x.MaxOut)]
end Go.Proofs.Ytmlhokaflhlhbaa
