/- Part SE of this seat's mirrors: functions of the seat's program, and the plain functions that they are; each theorem bears its own conditions. -/
import Derived.Test.YtmpkfolcikhofaaTy
import Derived.Test.YtmpkfolcikhofaaSD
namespace Go.Proofs.Ytmpkfolcikhofaa
open Go.RowKit
set_option linter.unusedVariables false
set_option linter.unusedSimpArgs false
set_option maxRecDepth 100000
set_option maxHeartbeats 1000000
mutual
def Kv : S_api_Tree → List G
 | ⟨f0, f1, f2⟩ => [.val (.int .i64 f0), .sl f1.length (fl (eI .u64) f1), .sl f2.length (Kw f2)]
def Kw : List S_api_Tree → List G
 | [] => []
 | x :: xs => Kv x ++ Kw xs
end
theorem Zdi : ∀ xs, Kw xs = fl Kv xs
 | [] => by simp [Kw, fl]
 | x :: xs => by rw [Kw, Jp, Zdi xs]
def Zb (x : S_api_Tree) : List G := [.val (.int .i64 x.Kind), .sl x.Words.length (fl (eI .u64) x.Words), .sl x.Kids.length (fl Kv x.Kids)]
theorem Yc : Kv = Zb := by
 funext x
 obtain ⟨_, _, _⟩ := x
 simp only [Kv, Zdi, Zb, List.cons_append, List.nil_append, List.append_nil]
mutual
theorem Zb4 : ∀ x, G.pures (Kv x) = true
 | ⟨f0, f1, f2⟩ => by simp [Kv, eP, K1, eI, eB, eS, eL, G.pures, G.pure, Vw, Yd, Zey f2]
theorem Zey : ∀ xs, G.pures (Kw xs) = true
 | [] => rfl
 | x :: xs => by simp [Kw, Vw, Zb4 x, Zey xs]
end
theorem Zb6 : ∀ x, G.pures (Zb x) = true := fun x => by rw [← Yc]; exact Zb4 x
theorem Jc : ∀ x, G.pures ((eI .u64) x) = true := fun x => by simp [eI, eB, eS, eL, eP, G.pures, G.pure, Yd, K1, Yc]
theorem Zcl {O O' : Objs} {n : Nat} (xs : List Int) : Vz O O' n (fl (eI .u64) xs) (fl (eI .u64) xs) := Zcm (Yd Jc xs)
theorem Zck {O O' : Objs} {n : Nat} (xs : List Int) (b b' : List G) : Vz O O' n (fl (eI .u64) xs ++ b) (fl (eI .u64) xs ++ b') = Vz O O' n b b' := Za2 b b' _ (Yd Jc xs)
theorem Zbq (xs : List Int) : (fl (eI .u64) xs).length = xs.length * 1 := Q9 (f := (eI .u64)) (k := 1) (fun _ => rfl) xs
theorem Zbu (xs : List Int) : (fl (eI .u64) xs).all G.one = true := V0 (fun x => by simp [eI, eB, eS, eL, eP, Za4, G.one, Value.oneCell']) xs
theorem Zcn {O O' : Objs} {n : Nat} (x : Option Int) : wk O O' n (gP (eI .u64) x) (gP (eI .u64) x) = True := Zoh Jc x
theorem Za1 {k : Nat} (x : Option Int) : (gP (eI .u64) x).under k = true := Za0 Jc k x
theorem Zax {ρ : Nat → Nat} (xs : List Int) : G.rens ρ (fl (eI .u64) xs) = fl (eI .u64) xs := Jw ρ _ (Yd Jc xs)
theorem Zaw {ρ : Nat → Nat} (x : Option Int) : (gP (eI .u64) x).ren ρ = gP (eI .u64) x := Gh ρ _ (K1 Jc x)
theorem Zch {k : Nat} (xs : List Int) : G.unders k (fl (eI .u64) xs) = true := Y4 _ _ (Yd Jc xs)
theorem Yj : ∀ x, G.pures (Zb x) = true := fun x => by rw [← Yc]; exact Zb4 x
theorem Ve {O O' : Objs} {n : Nat} (xs : List S_api_Tree) : Vz O O' n (fl Zb xs) (fl Zb xs) := Zcm (Yd Yj xs)
theorem Vd {O O' : Objs} {n : Nat} (xs : List S_api_Tree) (b b' : List G) : Vz O O' n (fl Zb xs ++ b) (fl Zb xs ++ b') = Vz O O' n b b' := Za2 b b' _ (Yd Yj xs)
theorem K5 (xs : List S_api_Tree) : (fl Zb xs).length = xs.length * 3 := Q9 (f := Zb) (k := 3) (fun _ => rfl) xs
theorem K7 (xs : List S_api_Tree) : (fl Zb xs).all G.one = true := V0 (fun x => by simp [eI, eB, eS, eL, eP, Za4, G.one, Value.oneCell', Zb]) xs
theorem Vf {O O' : Objs} {n : Nat} (x : Option S_api_Tree) : wk O O' n (gP Zb x) (gP Zb x) = True := Zoh Yj x
theorem Kt {k : Nat} (x : Option S_api_Tree) : (gP Zb x).under k = true := Za0 Yj k x
theorem Kr {ρ : Nat → Nat} (xs : List S_api_Tree) : G.rens ρ (fl Zb xs) = fl Zb xs := Jw ρ _ (Yd Yj xs)
theorem Kq {ρ : Nat → Nat} (x : Option S_api_Tree) : (gP Zb x).ren ρ = gP Zb x := Gh ρ _ (K1 Yj x)
theorem Vb {k : Nat} (xs : List S_api_Tree) : G.unders k (fl Zb xs) = true := Y4 _ _ (Yd Yj xs)
def Zi (x : Zj) : List G := [.val (.int .i64 x.At), .val (.int .u8 x.Mask), .val (.int .u64 x.Old), .val (.int .u64 x.New)]
mutual
def Xt : S_api_Edit → List G
 | ⟨f0, f1, f2, f3, f4, f5, f6⟩ => [.val (.int .i64 f0), .val (.int .i64 f1.Kind), .sl f1.Words.length (fl (eI .u64) f1.Words), .sl f1.Kids.length (fl Zb f1.Kids), .val (.int .i64 f2.Kind), .sl f2.Words.length (fl (eI .u64) f2.Words), .sl f2.Kids.length (fl Zb f2.Kids), .sl f3.length (fl Zi f3), .sl f4.length (Qe f4), .val (.int .i64 f5), .sl f6.length (V1 f6)]
def Vu : List S_api_Edit → List G
 | [] => []
 | x :: xs => Xt x ++ Vu xs
def Yt : S_api_KidEdit → List G
 | ⟨f0, f1⟩ => [.val (.int .i64 f0)] ++ Xt f1
def Qe : List S_api_KidEdit → List G
 | [] => []
 | x :: xs => Yt x ++ Qe xs
def Qo : S_api_Op → List G
 | ⟨f0, f1, f2, f3⟩ => [.val (.int .i64 f0), .val (.int .i64 f1), .sl f2.length (fl Zb f2)] ++ Xt f3
def V1 : List S_api_Op → List G
 | [] => []
 | x :: xs => Qo x ++ V1 xs
end
theorem Ui : ∀ xs, Vu xs = fl Xt xs
 | [] => by simp [Vu, fl]
 | x :: xs => by rw [Vu, Jp, Ui xs]
theorem K0 : ∀ xs, Qe xs = fl Yt xs
 | [] => by simp [Qe, fl]
 | x :: xs => by rw [Qe, Jp, K0 xs]
theorem U9 : ∀ xs, V1 xs = fl Qo xs
 | [] => by simp [V1, fl]
 | x :: xs => by rw [V1, Jp, U9 xs]
def Vi (x : S_api_Edit) : List G := [.val (.int .i64 x.Kind), .val (.int .i64 x.Old.Kind), .sl x.Old.Words.length (fl (eI .u64) x.Old.Words), .sl x.Old.Kids.length (fl Zb x.Old.Kids), .val (.int .i64 x.New.Kind), .sl x.New.Words.length (fl (eI .u64) x.New.Words), .sl x.New.Kids.length (fl Zb x.New.Kids), .sl x.Words.length (fl Zi x.Words), .sl x.Kids.length (fl Yt x.Kids), .val (.int .i64 x.List_), .sl x.Ops.length (fl Qo x.Ops)]
def Zq (x : S_api_KidEdit) : List G := [.val (.int .i64 x.At), .val (.int .i64 x.E.Kind), .val (.int .i64 x.E.Old.Kind), .sl x.E.Old.Words.length (fl (eI .u64) x.E.Old.Words), .sl x.E.Old.Kids.length (fl Zb x.E.Old.Kids), .val (.int .i64 x.E.New.Kind), .sl x.E.New.Words.length (fl (eI .u64) x.E.New.Words), .sl x.E.New.Kids.length (fl Zb x.E.New.Kids), .sl x.E.Words.length (fl Zi x.E.Words), .sl x.E.Kids.length (fl Yt x.E.Kids), .val (.int .i64 x.E.List_), .sl x.E.Ops.length (fl Qo x.E.Ops)]
def Z6 (x : S_api_Op) : List G := [.val (.int .i64 x.Kind), .val (.int .i64 x.N), .sl x.L.length (fl Zb x.L), .val (.int .i64 x.E.Kind), .val (.int .i64 x.E.Old.Kind), .sl x.E.Old.Words.length (fl (eI .u64) x.E.Old.Words), .sl x.E.Old.Kids.length (fl Zb x.E.Old.Kids), .val (.int .i64 x.E.New.Kind), .sl x.E.New.Words.length (fl (eI .u64) x.E.New.Words), .sl x.E.New.Kids.length (fl Zb x.E.New.Kids), .sl x.E.Words.length (fl Zi x.E.Words), .sl x.E.Kids.length (fl Yt x.E.Kids), .val (.int .i64 x.E.List_), .sl x.E.Ops.length (fl Qo x.E.Ops)]
theorem Xo : Xt = Vi := by
 funext x
 obtain ⟨_, _, _, _, _, _, _⟩ := x
 simp only [Xt, Ui, Yt, K0, Qo, U9, Vi, List.cons_append, List.nil_append, List.append_nil]
theorem Yp : Yt = Zq := by
 funext x
 obtain ⟨_, ⟨_, _, _, _, _, _, _⟩⟩ := x
 simp only [Xt, Ui, Yt, K0, Qo, U9, Zq, List.cons_append, List.nil_append, List.append_nil]
theorem Xv : Qo = Z6 := by
 funext x
 obtain ⟨_, _, _, ⟨_, _, _, _, _, _, _⟩⟩ := x
 simp only [Xt, Ui, Yt, K0, Qo, U9, Z6, List.cons_append, List.nil_append, List.append_nil]
mutual
theorem Zb3 : ∀ x, G.pures (Xt x) = true
 | ⟨f0, f1, f2, f3, f4, f5, f6⟩ => by simp [Xt, eP, K1, eI, eB, eS, eL, G.pures, G.pure, Vw, Yd, Zb7 f4, Zhl f6, Jc, Yj, Zb6, Zi]
theorem Zll : ∀ xs, G.pures (Vu xs) = true
 | [] => rfl
 | x :: xs => by simp [Vu, Vw, Zb3 x, Zll xs]
theorem Zcx : ∀ x, G.pures (Yt x) = true
 | ⟨f0, f1⟩ => by simp [Yt, eP, K1, eI, eB, eS, eL, G.pures, G.pure, Vw, Yd, Zb3 f1, Jc, Yj, Zb6, Zi]
theorem Zb7 : ∀ xs, G.pures (Qe xs) = true
 | [] => rfl
 | x :: xs => by simp [Qe, Vw, Zcx x, Zb7 xs]
theorem Zi2 : ∀ x, G.pures (Qo x) = true
 | ⟨f0, f1, f2, f3⟩ => by simp [Qo, eP, K1, eI, eB, eS, eL, G.pures, G.pure, Vw, Yd, Zb3 f3, Jc, Yj, Zb6, Zi]
theorem Zhl : ∀ xs, G.pures (V1 xs) = true
 | [] => rfl
 | x :: xs => by simp [V1, Vw, Zi2 x, Zhl xs]
end
def Zy (x : Ze) : List G := [.sl x.left.length (fl Zb x.left), .sl x.out.length (fl Zb x.out)]
theorem Yq : ∀ x, G.pures (Zi x) = true := fun x => by simp [eI, eB, eS, eL, eP, G.pures, G.pure, Yd, K1, Zi, Jc, Yj, Yc, Xo, Yp, Xv]
theorem Q4 {O O' : Objs} {n : Nat} (xs : List Zj) : Vz O O' n (fl Zi xs) (fl Zi xs) := Zcm (Yd Yq xs)
theorem Q2 {O O' : Objs} {n : Nat} (xs : List Zj) (b b' : List G) : Vz O O' n (fl Zi xs ++ b) (fl Zi xs ++ b') = Vz O O' n b b' := Za2 b b' _ (Yd Yq xs)
theorem Qq (xs : List Zj) : (fl Zi xs).length = xs.length * 4 := Q9 (f := Zi) (k := 4) (fun _ => rfl) xs
theorem Qv (xs : List Zj) : (fl Zi xs).all G.one = true := V0 (fun x => by simp [eI, eB, eS, eL, eP, Za4, G.one, Value.oneCell', Zi]) xs
theorem Q6 {O O' : Objs} {n : Nat} (x : Option Zj) : wk O O' n (gP Zi x) (gP Zi x) = True := Zoh Yq x
theorem Qb {k : Nat} (x : Option Zj) : (gP Zi x).under k = true := Za0 Yq k x
theorem X9 {ρ : Nat → Nat} (xs : List Zj) : G.rens ρ (fl Zi xs) = fl Zi xs := Jw ρ _ (Yd Yq xs)
theorem X7 {ρ : Nat → Nat} (x : Option Zj) : (gP Zi x).ren ρ = gP Zi x := Gh ρ _ (K1 Yq x)
theorem Qz {k : Nat} (xs : List Zj) : G.unders k (fl Zi xs) = true := Y4 _ _ (Yd Yq xs)
theorem Yz : ∀ x, G.pures (Zq x) = true := fun x => by rw [← Yp]; exact Zcx x
theorem Jn {O O' : Objs} {n : Nat} (xs : List S_api_KidEdit) : Vz O O' n (fl Zq xs) (fl Zq xs) := Zcm (Yd Yz xs)
theorem Jm {O O' : Objs} {n : Nat} (xs : List S_api_KidEdit) (b b' : List G) : Vz O O' n (fl Zq xs ++ b) (fl Zq xs ++ b') = Vz O O' n b b' := Za2 b b' _ (Yd Yz xs)
theorem Ji (xs : List S_api_KidEdit) : (fl Zq xs).length = xs.length * 12 := Q9 (f := Zq) (k := 12) (fun _ => rfl) xs
theorem Jk (xs : List S_api_KidEdit) : (fl Zq xs).all G.one = true := V0 (fun x => by simp [eI, eB, eS, eL, eP, Za4, G.one, Value.oneCell', Zq]) xs
theorem Jo {O O' : Objs} {n : Nat} (x : Option S_api_KidEdit) : wk O O' n (gP Zq x) (gP Zq x) = True := Zoh Yz x
theorem Q1 {k : Nat} (x : Option S_api_KidEdit) : (gP Zq x).under k = true := Za0 Yz k x
theorem Qy {ρ : Nat → Nat} (xs : List S_api_KidEdit) : G.rens ρ (fl Zq xs) = fl Zq xs := Jw ρ _ (Yd Yz xs)
theorem Qx {ρ : Nat → Nat} (x : Option S_api_KidEdit) : (gP Zq x).ren ρ = gP Zq x := Gh ρ _ (K1 Yz x)
theorem Jl {k : Nat} (xs : List S_api_KidEdit) : G.unders k (fl Zq xs) = true := Y4 _ _ (Yd Yz xs)
theorem Qk : ∀ x, G.pures (Z6 x) = true := fun x => by rw [← Xv]; exact Zi2 x
theorem Ud {O O' : Objs} {n : Nat} (xs : List S_api_Op) : Vz O O' n (fl Z6 xs) (fl Z6 xs) := Zcm (Yd Qk xs)
theorem Uc {O O' : Objs} {n : Nat} (xs : List S_api_Op) (b b' : List G) : Vz O O' n (fl Z6 xs ++ b) (fl Z6 xs ++ b') = Vz O O' n b b' := Za2 b b' _ (Yd Qk xs)
theorem V3 (xs : List S_api_Op) : (fl Z6 xs).length = xs.length * 14 := Q9 (f := Z6) (k := 14) (fun _ => rfl) xs
theorem V9 (xs : List S_api_Op) : (fl Z6 xs).all G.one = true := V0 (fun x => by simp [eI, eB, eS, eL, eP, Za4, G.one, Value.oneCell', Z6]) xs
theorem Uf {O O' : Objs} {n : Nat} (x : Option S_api_Op) : wk O O' n (gP Z6 x) (gP Z6 x) = True := Zoh Qk x
theorem Vt {k : Nat} (x : Option S_api_Op) : (gP Z6 x).under k = true := Za0 Qk k x
theorem Vs {ρ : Nat → Nat} (xs : List S_api_Op) : G.rens ρ (fl Z6 xs) = fl Z6 xs := Jw ρ _ (Yd Qk xs)
theorem Vr {ρ : Nat → Nat} (x : Option S_api_Op) : (gP Z6 x).ren ρ = gP Z6 x := Gh ρ _ (K1 Qk x)
theorem Ub {k : Nat} (xs : List S_api_Op) : G.unders k (fl Z6 xs) = true := Y4 _ _ (Yd Qk xs)
theorem Y1 : ∀ x, G.pures (Zy x) = true := fun x => by simp [eI, eB, eS, eL, eP, G.pures, G.pure, Yd, K1, Zy, Jc, Yj, Yq, Yz, Qk, Yc, Xo, Yp, Xv]
theorem Q5 {O O' : Objs} {n : Nat} (xs : List Ze) : Vz O O' n (fl Zy xs) (fl Zy xs) := Zcm (Yd Y1 xs)
theorem Q3 {O O' : Objs} {n : Nat} (xs : List Ze) (b b' : List G) : Vz O O' n (fl Zy xs ++ b) (fl Zy xs ++ b') = Vz O O' n b b' := Za2 b b' _ (Yd Y1 xs)
theorem Qr (xs : List Ze) : (fl Zy xs).length = xs.length * 2 := Q9 (f := Zy) (k := 2) (fun _ => rfl) xs
theorem Qw (xs : List Ze) : (fl Zy xs).all G.one = true := V0 (fun x => by simp [eI, eB, eS, eL, eP, Za4, G.one, Value.oneCell', Zy]) xs
theorem Q7 {O O' : Objs} {n : Nat} (x : Option Ze) : wk O O' n (gP Zy x) (gP Zy x) = True := Zoh Y1 x
theorem Qc {k : Nat} (x : Option Ze) : (gP Zy x).under k = true := Za0 Y1 k x
theorem Qa {ρ : Nat → Nat} (xs : List Ze) : G.rens ρ (fl Zy xs) = fl Zy xs := Jw ρ _ (Yd Y1 xs)
theorem X8 {ρ : Nat → Nat} (x : Option Ze) : (gP Zy x).ren ρ = gP Zy x := Gh ρ _ (K1 Y1 x)
theorem Q0 {k : Nat} (xs : List Ze) : G.unders k (fl Zy xs) = true := Y4 _ _ (Yd Y1 xs)
theorem Zb5 : ∀ x, G.pures ((eI .u8) x) = true := fun x => by simp [eI, eB, eS, eL, eP, G.pures, G.pure, Yd, K1, Jc, Yj, Yq, Yz, Qk, Y1, Yc, Xo, Yp, Xv]
theorem Zd9 {O O' : Objs} {n : Nat} (xs : List Int) : Vz O O' n (fl (eI .u8) xs) (fl (eI .u8) xs) := Zcm (Yd Zb5 xs)
theorem Zd7 {O O' : Objs} {n : Nat} (xs : List Int) (b b' : List G) : Vz O O' n (fl (eI .u8) xs ++ b) (fl (eI .u8) xs ++ b') = Vz O O' n b b' := Za2 b b' _ (Yd Zb5 xs)
theorem Zdm (xs : List Int) : (fl (eI .u8) xs).length = xs.length * 1 := Q9 (f := (eI .u8)) (k := 1) (fun _ => rfl) xs
theorem Zdt (xs : List Int) : (fl (eI .u8) xs).all G.one = true := V0 (fun x => by simp [eI, eB, eS, eL, eP, Za4, G.one, Value.oneCell']) xs
theorem Zea {O O' : Objs} {n : Nat} (x : Option Int) : wk O O' n (gP (eI .u8) x) (gP (eI .u8) x) = True := Zoh Zb5 x
theorem Zci {k : Nat} (x : Option Int) : (gP (eI .u8) x).under k = true := Za0 Zb5 k x
theorem Zca {ρ : Nat → Nat} (xs : List Int) : G.rens ρ (fl (eI .u8) xs) = fl (eI .u8) xs := Jw ρ _ (Yd Zb5 xs)
theorem Zb9 {ρ : Nat → Nat} (x : Option Int) : (gP (eI .u8) x).ren ρ = gP (eI .u8) x := Gh ρ _ (K1 Zb5 x)
theorem Zd6 {k : Nat} (xs : List Int) : G.unders k (fl (eI .u8) xs) = true := Y4 _ _ (Yd Zb5 xs)
def Xj (x : S_api_Op) : List G := [.val (.int .i64 x.Kind), .val (.int .i64 x.N), .sl x.L.length (fl Zb x.L), .val (.int .i64 x.E.Kind), .val (.int .i64 x.E.Old.Kind), .sl x.E.Old.Words.length (fl (eI .u64) x.E.Old.Words), .sl x.E.Old.Kids.length (fl Zb x.E.Old.Kids), .val (.int .i64 x.E.New.Kind), .sl x.E.New.Words.length (fl (eI .u64) x.E.New.Words), .sl x.E.New.Kids.length (fl Zb x.E.New.Kids), .sl x.E.Words.length (fl Zi x.E.Words), .sl x.E.Kids.length (fl Zq x.E.Kids), .val (.int .i64 x.E.List_), .sl x.E.Ops.length (fl Z6 x.E.Ops)]
def Vm (x : S_api_KidEdit) : List G := [.val (.int .i64 x.At), .val (.int .i64 x.E.Kind), .val (.int .i64 x.E.Old.Kind), .sl x.E.Old.Words.length (fl (eI .u64) x.E.Old.Words), .sl x.E.Old.Kids.length (fl Zb x.E.Old.Kids), .val (.int .i64 x.E.New.Kind), .sl x.E.New.Words.length (fl (eI .u64) x.E.New.Words), .sl x.E.New.Kids.length (fl Zb x.E.New.Kids), .sl x.E.Words.length (fl Zi x.E.Words), .sl x.E.Kids.length (fl Zq x.E.Kids), .val (.int .i64 x.E.List_), .sl x.E.Ops.length (fl Z6 x.E.Ops)]
def Zp (x : S_api_Edit) : List G := [.val (.int .i64 x.Kind), .val (.int .i64 x.Old.Kind), .sl x.Old.Words.length (fl (eI .u64) x.Old.Words), .sl x.Old.Kids.length (fl Zb x.Old.Kids), .val (.int .i64 x.New.Kind), .sl x.New.Words.length (fl (eI .u64) x.New.Words), .sl x.New.Kids.length (fl Zb x.New.Kids), .sl x.Words.length (fl Zi x.Words), .sl x.Kids.length (fl Zq x.Kids), .val (.int .i64 x.List_), .sl x.Ops.length (fl Z6 x.Ops)]
def Zd (x : S_api_Tree) : List G := [.val (.int .i64 x.Kind), .sl x.Words.length (fl (eI .u64) x.Words), .sl x.Kids.length (fl Zb x.Kids)]
def Jv (x : Zj) : List G := [.val (.int .i64 x.At), .val (.int .u8 x.Mask), .val (.int .u64 x.Old), .val (.int .u64 x.New)]
end Go.Proofs.Ytmpkfolcikhofaa
