/- Part VE of this seat's mirrors: functions of the seat's program, and the plain functions that they are; each theorem bears its own conditions. -/
import Derived.Test.YtmlhokaflhlhbaaTy
import Derived.Test.YtmlhokaflhlhbaaVD
namespace Go.Proofs.Ytmlhokaflhlhbaa
open Go.RowKit
set_option linter.unusedVariables false
set_option linter.unusedSimpArgs false
set_option maxRecDepth 100000
set_option maxHeartbeats 4000000
theorem Jq : ∀ x, G.pures ((eI .u64) x) = true := fun x => by simp [eI, eB, eS, eL, eP, G.pures, G.pure, Yk, V8]
theorem Zcu {O O' : Objs} {n : Nat} (xs : List Int) : U4 O O' n (fl (eI .u64) xs) (fl (eI .u64) xs) := Zek (Yk Jq xs)
theorem Zcr {O O' : Objs} {n : Nat} (xs : List Int) (b b' : List G) : U4 O O' n (fl (eI .u64) xs ++ b) (fl (eI .u64) xs ++ b') = U4 O O' n b b' := Zcv b b' _ (Yk Jq xs)
theorem Zb6 (xs : List Int) : (fl (eI .u64) xs).length = xs.length * 1 := Kb (f := (eI .u64)) (k := 1) (fun _ => rfl) xs
theorem Zca (xs : List Int) : (fl (eI .u64) xs).all G.one = true := Us (fun x => by simp [eI, eB, eS, eL, eP, Zcb, G.one, Value.oneCell']) xs
theorem Zcx {O O' : Objs} {n : Nat} (x : Option Int) : wk O O' n (gP (eI .u64) x) (gP (eI .u64) x) = True := Zpp Jq x
theorem Za9 {k : Nat} (x : Option Int) : (gP (eI .u64) x).under k = true := Zcp Jq k x
theorem Za6 {ρ : Nat → Nat} (xs : List Int) : G.rens ρ (fl (eI .u64) xs) = fl (eI .u64) xs := Ke ρ _ (Yk Jq xs)
theorem Za4 {ρ : Nat → Nat} (x : Option Int) : (gP (eI .u64) x).ren ρ = gP (eI .u64) x := Za2 ρ _ (V8 Jq x)
theorem Zco {k : Nat} (xs : List Int) : G.unders k (fl (eI .u64) xs) = true := Xf _ _ (Yk Jq xs)
theorem X6 : ∀ x, G.pures ((eL (eI .u64)) x) = true := fun x => by simp [eI, eB, eS, eL, eP, G.pures, G.pure, Yk, V8, Jq]
theorem Up {O O' : Objs} {n : Nat} (xs : List (List Int)) : U4 O O' n (fl (eL (eI .u64)) xs) (fl (eL (eI .u64)) xs) := Zek (Yk X6 xs)
theorem Uo {O O' : Objs} {n : Nat} (xs : List (List Int)) (b b' : List G) : U4 O O' n (fl (eL (eI .u64)) xs ++ b) (fl (eL (eI .u64)) xs ++ b') = U4 O O' n b b' := Zcv b b' _ (Yk X6 xs)
theorem Uh (xs : List (List Int)) : (fl (eL (eI .u64)) xs).length = xs.length * 1 := Kb (f := (eL (eI .u64))) (k := 1) (fun _ => rfl) xs
theorem Ul (xs : List (List Int)) : (fl (eL (eI .u64)) xs).all G.one = true := Us (fun x => by simp [eI, eB, eS, eL, eP, Zcb, G.one, Value.oneCell']) xs
theorem Uq {O O' : Objs} {n : Nat} (x : Option (List Int)) : wk O O' n (gP (eL (eI .u64)) x) (gP (eL (eI .u64)) x) = True := Zpp X6 x
theorem V2 {k : Nat} (x : Option (List Int)) : (gP (eL (eI .u64)) x).under k = true := Zcp X6 k x
theorem V1 {ρ : Nat → Nat} (xs : List (List Int)) : G.rens ρ (fl (eL (eI .u64)) xs) = fl (eL (eI .u64)) xs := Ke ρ _ (Yk X6 xs)
theorem V0 {ρ : Nat → Nat} (x : Option (List Int)) : (gP (eL (eI .u64)) x).ren ρ = gP (eL (eI .u64)) x := Za2 ρ _ (V8 X6 x)
theorem Un {k : Nat} (xs : List (List Int)) : G.unders k (fl (eL (eI .u64)) xs) = true := Xf _ _ (Yk X6 xs)
def Zk (x : Zj) : List G := [.sl x.segments.length (fl (eL (eI .u64)) x.segments), .val (.int .i64 x.size), .val (.int .i64 x.left)]
theorem Yr : ∀ x, G.pures (Zk x) = true := fun x => by simp [eI, eB, eS, eL, eP, G.pures, G.pure, Yk, V8, Zk, Jq, X6]
theorem Jk {O O' : Objs} {n : Nat} (xs : List Zj) : U4 O O' n (fl Zk xs) (fl Zk xs) := Zek (Yk Yr xs)
theorem Jj {O O' : Objs} {n : Nat} (xs : List Zj) (b b' : List G) : U4 O O' n (fl Zk xs ++ b) (fl Zk xs ++ b') = U4 O O' n b b' := Zcv b b' _ (Yk Yr xs)
theorem Jd (xs : List Zj) : (fl Zk xs).length = xs.length * 3 := Kb (f := Zk) (k := 3) (fun _ => rfl) xs
theorem Jh (xs : List Zj) : (fl Zk xs).all G.one = true := Us (fun x => by simp [eI, eB, eS, eL, eP, Zcb, G.one, Value.oneCell', Zk]) xs
theorem Jl {O O' : Objs} {n : Nat} (x : Option Zj) : wk O O' n (gP Zk x) (gP Zk x) = True := Zpp Yr x
theorem Q2 {k : Nat} (x : Option Zj) : (gP Zk x).under k = true := Zcp Yr k x
theorem Q1 {ρ : Nat → Nat} (xs : List Zj) : G.rens ρ (fl Zk xs) = fl Zk xs := Ke ρ _ (Yk Yr xs)
theorem Q0 {ρ : Nat → Nat} (x : Option Zj) : (gP Zk x).ren ρ = gP Zk x := Za2 ρ _ (V8 Yr x)
theorem Ji {k : Nat} (xs : List Zj) : G.unders k (fl Zk xs) = true := Xf _ _ (Yk Yr xs)
def Zap (x : Z7) : List G := [.val (.int .i64 x.Kind), .val (.int .i64 x.Off), .val (.int .i64 x.Data), .val (.int .i64 x.Ptrs), .val (.int .i64 x.Code), .val (.int .i64 x.Count), .val (.int .i64 x.Segment), .val (.bool x.Double)]
theorem V7 : ∀ x, G.pures ((eI .i64) x) = true := fun x => by simp [eI, eB, eS, eL, eP, G.pures, G.pure, Yk, V8, Jq, X6, Yr]
theorem Zct {O O' : Objs} {n : Nat} (xs : List Int) : U4 O O' n (fl (eI .i64) xs) (fl (eI .i64) xs) := Zek (Yk V7 xs)
theorem Zcq {O O' : Objs} {n : Nat} (xs : List Int) (b b' : List G) : U4 O O' n (fl (eI .i64) xs ++ b) (fl (eI .i64) xs ++ b') = U4 O O' n b b' := Zcv b b' _ (Yk V7 xs)
theorem Zb5 (xs : List Int) : (fl (eI .i64) xs).length = xs.length * 1 := Kb (f := (eI .i64)) (k := 1) (fun _ => rfl) xs
theorem Zb9 (xs : List Int) : (fl (eI .i64) xs).all G.one = true := Us (fun x => by simp [eI, eB, eS, eL, eP, Zcb, G.one, Value.oneCell']) xs
theorem Zcw {O O' : Objs} {n : Nat} (x : Option Int) : wk O O' n (gP (eI .i64) x) (gP (eI .i64) x) = True := Zpp V7 x
theorem Za8 {k : Nat} (x : Option Int) : (gP (eI .i64) x).under k = true := Zcp V7 k x
theorem Za5 {ρ : Nat → Nat} (xs : List Int) : G.rens ρ (fl (eI .i64) xs) = fl (eI .i64) xs := Ke ρ _ (Yk V7 xs)
theorem Za3 {ρ : Nat → Nat} (x : Option Int) : (gP (eI .i64) x).ren ρ = gP (eI .i64) x := Za2 ρ _ (V8 V7 x)
theorem Zcn {k : Nat} (xs : List Int) : G.unders k (fl (eI .i64) xs) = true := Xf _ _ (Yk V7 xs)
def Zao (x : Ys) : List G := [.val (.int .i64 x.P.Kind), .val (.int .i64 x.P.Off), .val (.int .i64 x.P.Data), .val (.int .i64 x.P.Ptrs), .val (.int .i64 x.P.Code), .val (.int .i64 x.P.Count), .val (.int .i64 x.P.Segment), .val (.bool x.P.Double), .val (.int .i64 x.Segment), .val (.int .i64 x.At)]
def Vu (x : Zd) : List G := [(gP Zk x.a), .val (.int .i64 x.kind), .val (.int .i64 x.segment), .val (.int .i64 x.at_), .val (.int .i64 x.words), .val (.int .i64 x.ptrs), .val (.int .i64 x.count), .val (.int .i64 x.code), .val (.int .i64 x.index)]
def Jv (x : Z5) : List G := [.val (.int .i64 x.P.Kind), .val (.int .i64 x.P.Off), .val (.int .i64 x.P.Data), .val (.int .i64 x.P.Ptrs), .val (.int .i64 x.P.Code), .val (.int .i64 x.P.Count), .val (.int .i64 x.P.Segment), .val (.bool x.P.Double), .val (.int .i64 x.Segment), .val (.int .i64 x.At)]
def Jw (x : Zm) : List G := [.val (.int .i64 x.Kind), .val (.int .i64 x.S), .val (.int .i64 x.At), .val (.int .i64 x.Data), .val (.int .i64 x.Ptrs), .val (.int .i64 x.Count), .val (.int .u64 x.N)]
def X3 (x : Zy) : List G := [.val (.int .i64 x.Depth), .val (.int .i64 x.Weight), .val (.int .i64 x.MaxD), .val (.int .i64 x.MaxOut)]
def Z3 (x : Ze) : List G := [.val (.int .i64 x.left)]
theorem Yz : ∀ x, G.pures (Z3 x) = true := fun x => by simp [eI, eB, eS, eL, eP, G.pures, G.pure, Yk, V8, Z3, Jq, X6, Yr, V7]
theorem Ql {O O' : Objs} {n : Nat} (xs : List Ze) : U4 O O' n (fl Z3 xs) (fl Z3 xs) := Zek (Yk Yz xs)
theorem Qk {O O' : Objs} {n : Nat} (xs : List Ze) (b b' : List G) : U4 O O' n (fl Z3 xs ++ b) (fl Z3 xs ++ b') = U4 O O' n b b' := Zcv b b' _ (Yk Yz xs)
theorem Qh (xs : List Ze) : (fl Z3 xs).length = xs.length * 1 := Kb (f := Z3) (k := 1) (fun _ => rfl) xs
theorem Qi (xs : List Ze) : (fl Z3 xs).all G.one = true := Us (fun x => by simp [eI, eB, eS, eL, eP, Zcb, G.one, Value.oneCell', Z3]) xs
theorem Qm {O O' : Objs} {n : Nat} (x : Option Ze) : wk O O' n (gP Z3 x) (gP Z3 x) = True := Zpp Yz x
theorem Qa {k : Nat} (x : Option Ze) : (gP Z3 x).under k = true := Zcp Yz k x
theorem X8 {ρ : Nat → Nat} (xs : List Ze) : G.rens ρ (fl Z3 xs) = fl Z3 xs := Ke ρ _ (Yk Yz xs)
theorem X7 {ρ : Nat → Nat} (x : Option Ze) : (gP Z3 x).ren ρ = gP Z3 x := Za2 ρ _ (V8 Yz x)
theorem Qj {k : Nat} (xs : List Ze) : G.unders k (fl Z3 xs) = true := Xf _ _ (Yk Yz xs)
mutual
def Kt : S_api_Tree → List G
 | ⟨f0, f1, f2⟩ => [.val (.int .i64 f0), .sl f1.length (fl (eI .u64) f1), .sl f2.length (Ku f2)]
def Ku : List S_api_Tree → List G
 | [] => []
 | x :: xs => Kt x ++ Ku xs
end
theorem Zdr : ∀ xs, Ku xs = fl Kt xs
 | [] => by simp [Ku, fl]
 | x :: xs => by rw [Ku, Vg, Zdr xs]
def Zw (x : S_api_Tree) : List G := [.val (.int .i64 x.Kind), .sl x.Words.length (fl (eI .u64) x.Words), .sl x.Kids.length (fl Kt x.Kids)]
theorem Jo : Kt = Zw := by
 funext x
 obtain ⟨_, _, _⟩ := x
 simp only [Kt, Zdr, Zw, List.cons_append, List.nil_append, List.append_nil]
mutual
theorem Zgm : ∀ x, G.pures (Kt x) = true
 | ⟨f0, f1, f2⟩ => by simp [Kt, eP, V8, eI, eB, eS, eL, G.pures, G.pure, Zhq, Yk, Zfa f2, Jq, X6, Yr, V7, Yz]
theorem Zfa : ∀ xs, G.pures (Ku xs) = true
 | [] => rfl
 | x :: xs => by simp [Ku, Zhq, Zgm x, Zfa xs]
end
theorem Jb : ∀ x, G.pures (Zw x) = true := fun x => by rw [← Jo]; exact Zgm x
theorem Vc {O O' : Objs} {n : Nat} (xs : List S_api_Tree) : U4 O O' n (fl Zw xs) (fl Zw xs) := Zek (Yk Jb xs)
theorem Vb {O O' : Objs} {n : Nat} (xs : List S_api_Tree) (b b' : List G) : U4 O O' n (fl Zw xs ++ b) (fl Zw xs ++ b') = U4 O O' n b b' := Zcv b b' _ (Yk Jb xs)
theorem K0 (xs : List S_api_Tree) : (fl Zw xs).length = xs.length * 3 := Kb (f := Zw) (k := 3) (fun _ => rfl) xs
theorem K6 (xs : List S_api_Tree) : (fl Zw xs).all G.one = true := Us (fun x => by simp [eI, eB, eS, eL, eP, Zcb, G.one, Value.oneCell', Zw]) xs
theorem Vd {O O' : Objs} {n : Nat} (x : Option S_api_Tree) : wk O O' n (gP Zw x) (gP Zw x) = True := Zpp Jb x
theorem Ks {k : Nat} (x : Option S_api_Tree) : (gP Zw x).under k = true := Zcp Jb k x
theorem Kq {ρ : Nat → Nat} (xs : List S_api_Tree) : G.rens ρ (fl Zw xs) = fl Zw xs := Ke ρ _ (Yk Jb xs)
theorem Kp {ρ : Nat → Nat} (x : Option S_api_Tree) : (gP Zw x).ren ρ = gP Zw x := Za2 ρ _ (V8 Jb x)
theorem K9 {k : Nat} (xs : List S_api_Tree) : G.unders k (fl Zw xs) = true := Xf _ _ (Yk Jb xs)
def Zp (x : Zd) : List G := [(gP Zk x.a), .val (.int .i64 x.kind), .val (.int .i64 x.segment), .val (.int .i64 x.at_), .val (.int .i64 x.words), .val (.int .i64 x.ptrs), .val (.int .i64 x.count), .val (.int .i64 x.code), .val (.int .i64 x.index)]
def Yh (x : Z7) : List G := [.val (.int .i64 x.Kind), .val (.int .i64 x.Off), .val (.int .i64 x.Data), .val (.int .i64 x.Ptrs), .val (.int .i64 x.Code), .val (.int .i64 x.Count), .val (.int .i64 x.Segment), .val (.bool x.Double)]
def Zn (x : Zm) : List G := [.val (.int .i64 x.Kind), .val (.int .i64 x.S), .val (.int .i64 x.At), .val (.int .i64 x.Data), .val (.int .i64 x.Ptrs), .val (.int .i64 x.Count), .val (.int .u64 x.N)]
def Zz (x : S_api_Tree) : List G := [.val (.int .i64 x.Kind), .sl x.Words.length (fl (eI .u64) x.Words), .sl x.Kids.length (fl Zw x.Kids)]
def Yg (x : Zy) : List G := [.val (.int .i64 x.Depth), .val (.int .i64 x.Weight), .val (.int .i64 x.MaxD), .val (.int .i64 x.MaxOut)]
end Go.Proofs.Ytmlhokaflhlhbaa
