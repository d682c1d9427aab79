/- Part VE of this seat's mirrors: functions of the seat's program, and the plain functions that they are; each theorem bears its own conditions. -/
import Derived.Test.YtbcgiaijjaocdaaTy
import Derived.Test.YtbcgiaijjaocdaaVD
namespace Go.Proofs.Ytbcgiaijjaocdaa
open Go.RowKit
set_option linter.unusedVariables false
set_option linter.unusedSimpArgs false
set_option maxRecDepth 100000
set_option maxHeartbeats 1000000
mutual
def Uf : S_api_Tree → List G
 | ⟨f0, f1, f2⟩ => [.val (.int .i64 f0), .sl f1.length (fl (eI .u64) f1), .sl f2.length (Ug f2)]
def Ug : List S_api_Tree → List G
 | [] => []
 | x :: xs => Uf x ++ Ug xs
end
theorem Zgd : ∀ xs, Ug xs = fl Uf xs
 | [] => by simp [Ug, fl]
 | x :: xs => by rw [Ug, V5, Zgd xs]
def Zb (x : S_api_Tree) : List G := [.val (.int .i64 x.Kind), .sl x.Words.length (fl (eI .u64) x.Words), .sl x.Kids.length (fl Uf x.Kids)]
theorem Yn : Uf = Zb := by
 funext x
 obtain ⟨_, _, _⟩ := x
 simp only [Uf, Zgd, Zb, List.cons_append, List.nil_append, List.append_nil]
mutual
theorem Ze7 : ∀ x, G.pures (Uf x) = true
 | ⟨f0, f1, f2⟩ => by simp [Uf, eP, Vu, eI, eB, eS, eL, G.pures, G.pure, Gt, Yk, Zhf f2]
theorem Zhf : ∀ xs, G.pures (Ug xs) = true
 | [] => rfl
 | x :: xs => by simp [Ug, Gt, Ze7 x, Zhf xs]
end
theorem Ze8 : ∀ x, G.pures (Zb x) = true := fun x => by rw [← Yn]; exact Ze7 x
theorem J8 : ∀ x, G.pures ((eI .u64) x) = true := fun x => by simp [eI, eB, eS, eL, eP, G.pures, G.pure, Yk, Vu, Yn]
theorem Zkl {O O' : Objs} {n : Nat} (xs : List Int) : Gp O O' n (fl (eI .u64) xs) (fl (eI .u64) xs) := Zd7 (Yk J8 xs)
theorem Zkk {O O' : Objs} {n : Nat} (xs : List Int) (b b' : List G) : Gp O O' n (fl (eI .u64) xs ++ b) (fl (eI .u64) xs ++ b') = Gp O O' n b b' := Zcz b b' _ (Yk J8 xs)
theorem Zjy (xs : List Int) : (fl (eI .u64) xs).length = xs.length * 1 := Jm (f := (eI .u64)) (k := 1) (fun _ => rfl) xs
theorem Zj5 (xs : List Int) : (fl (eI .u64) xs).all G.one = true := U3 (fun x => by simp [eI, eB, eS, eL, eP, Ze3, G.one, Value.oneCell']) xs
theorem Zkm {O O' : Objs} {n : Nat} (x : Option Int) : wk O O' n (gP (eI .u64) x) (gP (eI .u64) x) = True := Zm5 J8 x
theorem Zin {k : Nat} (x : Option Int) : (gP (eI .u64) x).under k = true := Zcx J8 k x
theorem Zif {ρ : Nat → Nat} (xs : List Int) : G.rens ρ (fl (eI .u64) xs) = fl (eI .u64) xs := Ku ρ _ (Yk J8 xs)
theorem Zie {ρ : Nat → Nat} (x : Option Int) : (gP (eI .u64) x).ren ρ = gP (eI .u64) x := Zbw ρ _ (Vu J8 x)
theorem Zki {k : Nat} (xs : List Int) : G.unders k (fl (eI .u64) xs) = true := Xt _ _ (Yk J8 xs)
theorem Y4 : ∀ x, G.pures (Zb x) = true := fun x => by rw [← Yn]; exact Ze7 x
theorem Zdl {O O' : Objs} {n : Nat} (xs : List S_api_Tree) : Gp O O' n (fl Zb xs) (fl Zb xs) := Zd7 (Yk Y4 xs)
theorem Zdk {O O' : Objs} {n : Nat} (xs : List S_api_Tree) (b b' : List G) : Gp O O' n (fl Zb xs ++ b) (fl Zb xs ++ b') = Gp O O' n b b' := Zcz b b' _ (Yk Y4 xs)
theorem Zc9 (xs : List S_api_Tree) : (fl Zb xs).length = xs.length * 3 := Jm (f := Zb) (k := 3) (fun _ => rfl) xs
theorem Zde (xs : List S_api_Tree) : (fl Zb xs).all G.one = true := U3 (fun x => by simp [eI, eB, eS, eL, eP, Ze3, G.one, Value.oneCell', Zb]) xs
theorem Zdm {O O' : Objs} {n : Nat} (x : Option S_api_Tree) : wk O O' n (gP Zb x) (gP Zb x) = True := Zm5 Y4 x
theorem Zcy {k : Nat} (x : Option S_api_Tree) : (gP Zb x).under k = true := Zcx Y4 k x
theorem Zcr {ρ : Nat → Nat} (xs : List S_api_Tree) : G.rens ρ (fl Zb xs) = fl Zb xs := Ku ρ _ (Yk Y4 xs)
theorem Zcq {ρ : Nat → Nat} (x : Option S_api_Tree) : (gP Zb x).ren ρ = gP Zb x := Zbw ρ _ (Vu Y4 x)
theorem Zdj {k : Nat} (xs : List S_api_Tree) : G.unders k (fl Zb xs) = true := Xt _ _ (Yk Y4 xs)
def Zh (x : Zq) : List G := [.val (.int .i64 x.At), .val (.int .u8 x.Mask), .val (.int .u64 x.Old), .val (.int .u64 x.New)]
mutual
def Je : S_api_Edit → List G
 | ⟨f0, f1, f2, f3, f4, f5, f6⟩ => [.val (.int .i64 f0), .val (.int .i64 f1.Kind), .sl f1.Words.length (fl (eI .u64) f1.Words), .sl f1.Kids.length (fl Zb f1.Kids), .val (.int .i64 f2.Kind), .sl f2.Words.length (fl (eI .u64) f2.Words), .sl f2.Kids.length (fl Zb f2.Kids), .sl f3.length (fl Zh f3), .sl f4.length (J0 f4), .val (.int .i64 f5), .sl f6.length (Zal f6)]
def Gq : List S_api_Edit → List G
 | [] => []
 | x :: xs => Je x ++ Gq xs
def Kh : S_api_Op → List G
 | ⟨f0, f1, f2, f3⟩ => [.val (.int .i64 f0), .val (.int .i64 f1), .sl f2.length (fl Zb f2)] ++ Je f3
def Zal : List S_api_Op → List G
 | [] => []
 | x :: xs => Kh x ++ Zal xs
def Xk : S_api_KidEdit → List G
 | ⟨f0, f1⟩ => [.val (.int .i64 f0)] ++ Je f1
def J0 : List S_api_KidEdit → List G
 | [] => []
 | x :: xs => Xk x ++ J0 xs
end
theorem Zbf : ∀ xs, Gq xs = fl Je xs
 | [] => by simp [Gq, fl]
 | x :: xs => by rw [Gq, V5, Zbf xs]
theorem Zcg : ∀ xs, Zal xs = fl Kh xs
 | [] => by simp [Zal, fl]
 | x :: xs => by rw [Zal, V5, Zcg xs]
theorem Ul : ∀ xs, J0 xs = fl Xk xs
 | [] => by simp [J0, fl]
 | x :: xs => by rw [J0, V5, Ul xs]
def X4 (x : S_api_Edit) : List G := [.val (.int .i64 x.Kind), .val (.int .i64 x.Old.Kind), .sl x.Old.Words.length (fl (eI .u64) x.Old.Words), .sl x.Old.Kids.length (fl Zb x.Old.Kids), .val (.int .i64 x.New.Kind), .sl x.New.Words.length (fl (eI .u64) x.New.Words), .sl x.New.Kids.length (fl Zb x.New.Kids), .sl x.Words.length (fl Zh x.Words), .sl x.Kids.length (fl Xk x.Kids), .val (.int .i64 x.List_), .sl x.Ops.length (fl Kh x.Ops)]
def Zf (x : S_api_Op) : List G := [.val (.int .i64 x.Kind), .val (.int .i64 x.N), .sl x.L.length (fl Zb x.L), .val (.int .i64 x.E.Kind), .val (.int .i64 x.E.Old.Kind), .sl x.E.Old.Words.length (fl (eI .u64) x.E.Old.Words), .sl x.E.Old.Kids.length (fl Zb x.E.Old.Kids), .val (.int .i64 x.E.New.Kind), .sl x.E.New.Words.length (fl (eI .u64) x.E.New.Words), .sl x.E.New.Kids.length (fl Zb x.E.New.Kids), .sl x.E.Words.length (fl Zh x.E.Words), .sl x.E.Kids.length (fl Xk x.E.Kids), .val (.int .i64 x.E.List_), .sl x.E.Ops.length (fl Kh x.E.Ops)]
def Zk (x : S_api_KidEdit) : List G := [.val (.int .i64 x.At), .val (.int .i64 x.E.Kind), .val (.int .i64 x.E.Old.Kind), .sl x.E.Old.Words.length (fl (eI .u64) x.E.Old.Words), .sl x.E.Old.Kids.length (fl Zb x.E.Old.Kids), .val (.int .i64 x.E.New.Kind), .sl x.E.New.Words.length (fl (eI .u64) x.E.New.Words), .sl x.E.New.Kids.length (fl Zb x.E.New.Kids), .sl x.E.Words.length (fl Zh x.E.Words), .sl x.E.Kids.length (fl Xk x.E.Kids), .val (.int .i64 x.E.List_), .sl x.E.Ops.length (fl Kh x.E.Ops)]
theorem Xl : Je = X4 := by
 funext x
 obtain ⟨_, _, _, _, _, _, _⟩ := x
 simp only [Je, Zbf, Kh, Zcg, Xk, Ul, X4, List.cons_append, List.nil_append, List.append_nil]
theorem Xv : Kh = Zf := by
 funext x
 obtain ⟨_, _, _, ⟨_, _, _, _, _, _, _⟩⟩ := x
 simp only [Je, Zbf, Kh, Zcg, Xk, Ul, Zf, List.cons_append, List.nil_append, List.append_nil]
theorem Y1 : Xk = Zk := by
 funext x
 obtain ⟨_, ⟨_, _, _, _, _, _, _⟩⟩ := x
 simp only [Je, Zbf, Kh, Zcg, Xk, Ul, Zk, List.cons_append, List.nil_append, List.append_nil]
mutual
theorem Ze6 : ∀ x, G.pures (Je x) = true
 | ⟨f0, f1, f2, f3, f4, f5, f6⟩ => by simp [Je, eP, Vu, eI, eB, eS, eL, G.pures, G.pure, Gt, Yk, Ze9 f4, Zjj f6, J8, Y4, Ze8, Zh]
theorem Zna : ∀ xs, G.pures (Gq xs) = true
 | [] => rfl
 | x :: xs => by simp [Gq, Gt, Ze6 x, Zna xs]
theorem Zle : ∀ x, G.pures (Kh x) = true
 | ⟨f0, f1, f2, f3⟩ => by simp [Kh, eP, Vu, eI, eB, eS, eL, G.pures, G.pure, Gt, Yk, Ze6 f3, J8, Y4, Ze8, Zh]
theorem Zjj : ∀ xs, G.pures (Zal xs) = true
 | [] => rfl
 | x :: xs => by simp [Zal, Gt, Zle x, Zjj xs]
theorem Zfx : ∀ x, G.pures (Xk x) = true
 | ⟨f0, f1⟩ => by simp [Xk, eP, Vu, eI, eB, eS, eL, G.pures, G.pure, Gt, Yk, Ze6 f1, J8, Y4, Ze8, Zh]
theorem Ze9 : ∀ xs, G.pures (J0 xs) = true
 | [] => rfl
 | x :: xs => by simp [J0, Gt, Zfx x, Ze9 xs]
end
theorem Y6 : ∀ x, G.pures (Zh x) = true := fun x => by simp [eI, eB, eS, eL, eP, G.pures, G.pure, Yk, Vu, Zh, J8, Y4, Yn, Xl, Xv, Y1]
theorem Za7 {O O' : Objs} {n : Nat} (xs : List Zq) : Gp O O' n (fl Zh xs) (fl Zh xs) := Zd7 (Yk Y6 xs)
theorem Za5 {O O' : Objs} {n : Nat} (xs : List Zq) (b b' : List G) : Gp O O' n (fl Zh xs ++ b) (fl Zh xs ++ b') = Gp O O' n b b' := Zcz b b' _ (Yk Y6 xs)
theorem Zao (xs : List Zq) : (fl Zh xs).length = xs.length * 4 := Jm (f := Zh) (k := 4) (fun _ => rfl) xs
theorem Zaw (xs : List Zq) : (fl Zh xs).all G.one = true := U3 (fun x => by simp [eI, eB, eS, eL, eP, Ze3, G.one, Value.oneCell', Zh]) xs
theorem Zba {O O' : Objs} {n : Nat} (x : Option Zq) : wk O O' n (gP Zh x) (gP Zh x) = True := Zm5 Y6 x
theorem Zac {k : Nat} (x : Option Zq) : (gP Zh x).under k = true := Zcx Y6 k x
theorem G0 {ρ : Nat → Nat} (xs : List Zq) : G.rens ρ (fl Zh xs) = fl Zh xs := Ku ρ _ (Yk Y6 xs)
theorem Gy {ρ : Nat → Nat} (x : Option Zq) : (gP Zh x).ren ρ = gP Zh x := Zbw ρ _ (Vu Y6 x)
theorem Za2 {k : Nat} (xs : List Zq) : G.unders k (fl Zh xs) = true := Xt _ _ (Yk Y6 xs)
theorem Xh : ∀ x, G.pures (Zk x) = true := fun x => by rw [← Y1]; exact Zfx x
theorem Zbm {O O' : Objs} {n : Nat} (xs : List S_api_KidEdit) : Gp O O' n (fl Zk xs) (fl Zk xs) := Zd7 (Yk Xh xs)
theorem Zbl {O O' : Objs} {n : Nat} (xs : List S_api_KidEdit) (b b' : List G) : Gp O O' n (fl Zk xs ++ b) (fl Zk xs ++ b') = Gp O O' n b b' := Zcz b b' _ (Yk Xh xs)
theorem Zbi (xs : List S_api_KidEdit) : (fl Zk xs).length = xs.length * 12 := Jm (f := Zk) (k := 12) (fun _ => rfl) xs
theorem Zbj (xs : List S_api_KidEdit) : (fl Zk xs).all G.one = true := U3 (fun x => by simp [eI, eB, eS, eL, eP, Ze3, G.one, Value.oneCell', Zk]) xs
theorem Zbn {O O' : Objs} {n : Nat} (x : Option S_api_KidEdit) : wk O O' n (gP Zk x) (gP Zk x) = True := Zm5 Xh x
theorem Za4 {k : Nat} (x : Option S_api_KidEdit) : (gP Zk x).under k = true := Zcx Xh k x
theorem Za0 {ρ : Nat → Nat} (xs : List S_api_KidEdit) : G.rens ρ (fl Zk xs) = fl Zk xs := Ku ρ _ (Yk Xh xs)
theorem Zaz {ρ : Nat → Nat} (x : Option S_api_KidEdit) : (gP Zk x).ren ρ = gP Zk x := Zbw ρ _ (Vu Xh x)
theorem Zbk {k : Nat} (xs : List S_api_KidEdit) : G.unders k (fl Zk xs) = true := Xt _ _ (Yk Xh xs)
theorem Jf : ∀ x, G.pures (Zf x) = true := fun x => by rw [← Xv]; exact Zle x
theorem Zfk {O O' : Objs} {n : Nat} (xs : List S_api_Op) : Gp O O' n (fl Zf xs) (fl Zf xs) := Zd7 (Yk Jf xs)
theorem Zfj {O O' : Objs} {n : Nat} (xs : List S_api_Op) (b b' : List G) : Gp O O' n (fl Zf xs ++ b) (fl Zf xs ++ b') = Gp O O' n b b' := Zcz b b' _ (Yk Jf xs)
theorem Zev (xs : List S_api_Op) : (fl Zf xs).length = xs.length * 14 := Jm (f := Zf) (k := 14) (fun _ => rfl) xs
theorem Ze2 (xs : List S_api_Op) : (fl Zf xs).all G.one = true := U3 (fun x => by simp [eI, eB, eS, eL, eP, Ze3, G.one, Value.oneCell', Zf]) xs
theorem Zfl {O O' : Objs} {n : Nat} (x : Option S_api_Op) : wk O O' n (gP Zf x) (gP Zf x) = True := Zm5 Jf x
theorem Zed {k : Nat} (x : Option S_api_Op) : (gP Zf x).under k = true := Zcx Jf k x
theorem Zeb {ρ : Nat → Nat} (xs : List S_api_Op) : G.rens ρ (fl Zf xs) = fl Zf xs := Ku ρ _ (Yk Jf xs)
theorem Zea {ρ : Nat → Nat} (x : Option S_api_Op) : (gP Zf x).ren ρ = gP Zf x := Zbw ρ _ (Vu Jf x)
theorem Zfh {k : Nat} (xs : List S_api_Op) : G.unders k (fl Zf xs) = true := Xt _ _ (Yk Jf xs)
theorem Zcp : ∀ x, G.pures ((eI .u8) x) = true := fun x => by simp [eI, eB, eS, eL, eP, G.pures, G.pure, Yk, Vu, J8, Y4, Y6, Xh, Jf, Yn, Xl, Xv, Y1]
theorem Zmv {O O' : Objs} {n : Nat} (xs : List Int) : Gp O O' n (fl (eI .u8) xs) (fl (eI .u8) xs) := Zd7 (Yk Zcp xs)
theorem Zmu {O O' : Objs} {n : Nat} (xs : List Int) (b b' : List G) : Gp O O' n (fl (eI .u8) xs ++ b) (fl (eI .u8) xs ++ b') = Gp O O' n b b' := Zcz b b' _ (Yk Zcp xs)
theorem Zl6 (xs : List Int) : (fl (eI .u8) xs).length = xs.length * 1 := Jm (f := (eI .u8)) (k := 1) (fun _ => rfl) xs
theorem Zmc (xs : List Int) : (fl (eI .u8) xs).all G.one = true := U3 (fun x => by simp [eI, eB, eS, eL, eP, Ze3, G.one, Value.oneCell']) xs
theorem Zmw {O O' : Objs} {n : Nat} (x : Option Int) : wk O O' n (gP (eI .u8) x) (gP (eI .u8) x) = True := Zm5 Zcp x
theorem Zkj {k : Nat} (x : Option Int) : (gP (eI .u8) x).under k = true := Zcx Zcp k x
theorem Zkd {ρ : Nat → Nat} (xs : List Int) : G.rens ρ (fl (eI .u8) xs) = fl (eI .u8) xs := Ku ρ _ (Yk Zcp xs)
theorem Zkc {ρ : Nat → Nat} (x : Option Int) : (gP (eI .u8) x).ren ρ = gP (eI .u8) x := Zbw ρ _ (Vu Zcp x)
theorem Zmp {k : Nat} (xs : List Int) : G.unders k (fl (eI .u8) xs) = true := Xt _ _ (Yk Zcp xs)
def Z9 (x : Zr) : List G := [.sl x.out.length (fl Zf x.out), .val (.int .i64 x.kept), .sl x.gone.length (fl Zb x.gone), .sl x.come.length (fl Zb x.come)]
theorem Xr : ∀ x, G.pures (Z9 x) = true := fun x => by simp [eI, eB, eS, eL, eP, G.pures, G.pure, Yk, Vu, Z9, J8, Y4, Y6, Xh, Jf, Zcp, Yn, Xl, Xv, Y1]
theorem Zaf {O O' : Objs} {n : Nat} (xs : List Zr) : Gp O O' n (fl Z9 xs) (fl Z9 xs) := Zd7 (Yk Xr xs)
theorem Zae {O O' : Objs} {n : Nat} (xs : List Zr) (b b' : List G) : Gp O O' n (fl Z9 xs ++ b) (fl Z9 xs ++ b') = Gp O O' n b b' := Zcz b b' _ (Yk Xr xs)
theorem Gv (xs : List Zr) : (fl Z9 xs).length = xs.length * 4 := Jm (f := Z9) (k := 4) (fun _ => rfl) xs
theorem Gx (xs : List Zr) : (fl Z9 xs).all G.one = true := U3 (fun x => by simp [eI, eB, eS, eL, eP, Ze3, G.one, Value.oneCell', Z9]) xs
theorem Zag {O O' : Objs} {n : Nat} (x : Option Zr) : wk O O' n (gP Z9 x) (gP Z9 x) = True := Zm5 Xr x
theorem Gg {k : Nat} (x : Option Zr) : (gP Z9 x).under k = true := Zcx Xr k x
theorem Gf {ρ : Nat → Nat} (xs : List Zr) : G.rens ρ (fl Z9 xs) = fl Z9 xs := Ku ρ _ (Yk Xr xs)
theorem Ge {ρ : Nat → Nat} (x : Option Zr) : (gP Z9 x).ren ρ = gP Z9 x := Zbw ρ _ (Vu Xr x)
theorem Zab {k : Nat} (xs : List Zr) : G.unders k (fl Z9 xs) = true := Xt _ _ (Yk Xr xs)
def Yc (x : Zi) : List G := [.sl x.left.length (fl Zb x.left), .sl x.out.length (fl Zb x.out)]
theorem Qk : ∀ x, G.pures (Yc x) = true := fun x => by simp [eI, eB, eS, eL, eP, G.pures, G.pure, Yk, Vu, Yc, J8, Y4, Y6, Xh, Jf, Zcp, Xr, Yn, Xl, Xv, Y1]
theorem Za8 {O O' : Objs} {n : Nat} (xs : List Zi) : Gp O O' n (fl Yc xs) (fl Yc xs) := Zd7 (Yk Qk xs)
theorem Za6 {O O' : Objs} {n : Nat} (xs : List Zi) (b b' : List G) : Gp O O' n (fl Yc xs ++ b) (fl Yc xs ++ b') = Gp O O' n b b' := Zcz b b' _ (Yk Qk xs)
theorem Zap (xs : List Zi) : (fl Yc xs).length = xs.length * 2 := Jm (f := Yc) (k := 2) (fun _ => rfl) xs
theorem Zax (xs : List Zi) : (fl Yc xs).all G.one = true := U3 (fun x => by simp [eI, eB, eS, eL, eP, Ze3, G.one, Value.oneCell', Yc]) xs
theorem Zbb {O O' : Objs} {n : Nat} (x : Option Zi) : wk O O' n (gP Yc x) (gP Yc x) = True := Zm5 Qk x
theorem Zad {k : Nat} (x : Option Zi) : (gP Yc x).under k = true := Zcx Qk k x
theorem Zaa {ρ : Nat → Nat} (xs : List Zi) : G.rens ρ (fl Yc xs) = fl Yc xs := Ku ρ _ (Yk Qk xs)
theorem Gz {ρ : Nat → Nat} (x : Option Zi) : (gP Yc x).ren ρ = gP Yc x := Zbw ρ _ (Vu Qk x)
theorem Za3 {k : Nat} (xs : List Zi) : G.unders k (fl Yc xs) = true := Xt _ _ (Yk Qk xs)
def Ym (x : S_api_Op) : List G := [.val (.int .i64 x.Kind), .val (.int .i64 x.N), .sl x.L.length (fl Zb x.L), .val (.int .i64 x.E.Kind), .val (.int .i64 x.E.Old.Kind), .sl x.E.Old.Words.length (fl (eI .u64) x.E.Old.Words), .sl x.E.Old.Kids.length (fl Zb x.E.Old.Kids), .val (.int .i64 x.E.New.Kind), .sl x.E.New.Words.length (fl (eI .u64) x.E.New.Words), .sl x.E.New.Kids.length (fl Zb x.E.New.Kids), .sl x.E.Words.length (fl Zh x.E.Words), .sl x.E.Kids.length (fl Zk x.E.Kids), .val (.int .i64 x.E.List_), .sl x.E.Ops.length (fl Zf x.E.Ops)]
def Zbx (x : S_api_KidEdit) : List G := [.val (.int .i64 x.At), .val (.int .i64 x.E.Kind), .val (.int .i64 x.E.Old.Kind), .sl x.E.Old.Words.length (fl (eI .u64) x.E.Old.Words), .sl x.E.Old.Kids.length (fl Zb x.E.Old.Kids), .val (.int .i64 x.E.New.Kind), .sl x.E.New.Words.length (fl (eI .u64) x.E.New.Words), .sl x.E.New.Kids.length (fl Zb x.E.New.Kids), .sl x.E.Words.length (fl Zh x.E.Words), .sl x.E.Kids.length (fl Zk x.E.Kids), .val (.int .i64 x.E.List_), .sl x.E.Ops.length (fl Zf x.E.Ops)]
def Zg (x : S_api_Edit) : List G := [.val (.int .i64 x.Kind), .val (.int .i64 x.Old.Kind), .sl x.Old.Words.length (fl (eI .u64) x.Old.Words), .sl x.Old.Kids.length (fl Zb x.Old.Kids), .val (.int .i64 x.New.Kind), .sl x.New.Words.length (fl (eI .u64) x.New.Words), .sl x.New.Kids.length (fl Zb x.New.Kids), .sl x.Words.length (fl Zh x.Words), .sl x.Kids.length (fl Zk x.Kids), .val (.int .i64 x.List_), .sl x.Ops.length (fl Zf x.Ops)]
def Ze (x : S_api_Tree) : List G := [.val (.int .i64 x.Kind), .sl x.Words.length (fl (eI .u64) x.Words), .sl x.Kids.length (fl Zb x.Kids)]
def Uo (x : Zq) : List G := [.val (.int .i64 x.At), .val (.int .u8 x.Mask), .val (.int .u64 x.Old), .val (.int .u64 x.New)]
end Go.Proofs.Ytbcgiaijjaocdaa
