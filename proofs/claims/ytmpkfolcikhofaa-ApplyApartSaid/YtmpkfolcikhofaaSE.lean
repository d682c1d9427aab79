/- Part SE of this seat's mirrors: functions of the seat's program, and the plain functions that they are; each theorem bears its own conditions. -/
import Derived.Test.YtmpkfolcikhofaaTy
import Derived.Test.YtmpkfolcikhofaaSD
namespace Go.Proofs.Ytmpkfolcikhofaa
open Go.RowKit
set_option linter.unusedVariables false
set_option linter.unusedSimpArgs false
set_option maxRecDepth 100000
set_option maxHeartbeats 1000000
mutual
def V6 : S_api_Tree → List G
 | ⟨f0, f1, f2⟩ => [.val (.int .i64 f0), .sl f1.length (fl (eI .u64) f1), .sl f2.length (V7 f2)]
def V7 : List S_api_Tree → List G
 | [] => []
 | x :: xs => V6 x ++ V7 xs
end
theorem Zfj : ∀ xs, V7 xs = fl V6 xs
 | [] => by simp [V7, fl]
 | x :: xs => by rw [V7, Kv, Zfj xs]
def Zb (x : S_api_Tree) : List G := [.val (.int .i64 x.Kind), .sl x.Words.length (fl (eI .u64) x.Words), .sl x.Kids.length (fl V6 x.Kids)]
theorem Ya : V6 = Zb := by
 funext x
 obtain ⟨_, _, _⟩ := x
 simp only [V6, Zfj, Zb, List.cons_append, List.nil_append, List.append_nil]
mutual
theorem Zd0 : ∀ x, G.pures (V6 x) = true
 | ⟨f0, f1, f2⟩ => by simp [V6, eP, Ue, eI, eB, eS, eL, G.pures, G.pure, Ga, Yh, Zg3 f2]
theorem Zg3 : ∀ xs, G.pures (V7 xs) = true
 | [] => rfl
 | x :: xs => by simp [V7, Ga, Zd0 x, Zg3 xs]
end
theorem Zd2 : ∀ x, G.pures (Zb x) = true := fun x => by rw [← Ya]; exact Zd0 x
theorem Ke : ∀ x, G.pures ((eI .u64) x) = true := fun x => by simp [eI, eB, eS, eL, eP, G.pures, G.pure, Yh, Ue, Ya]
theorem Zei {O O' : Objs} {n : Nat} (xs : List Int) : Ge O O' n (fl (eI .u64) xs) (fl (eI .u64) xs) := Zej (Yh Ke xs)
theorem Zeh {O O' : Objs} {n : Nat} (xs : List Int) (b b' : List G) : Ge O O' n (fl (eI .u64) xs ++ b) (fl (eI .u64) xs ++ b') = Ge O O' n b b' := Zct b b' _ (Yh Ke xs)
theorem Zdk (xs : List Int) : (fl (eI .u64) xs).length = xs.length * 1 := Ja (f := (eI .u64)) (k := 1) (fun _ => rfl) xs
theorem Zdr (xs : List Int) : (fl (eI .u64) xs).all G.one = true := Gf (fun x => by simp [eI, eB, eS, eL, eP, Zcx, G.one, Value.oneCell']) xs
theorem Zek {O O' : Objs} {n : Nat} (x : Option Int) : wk O O' n (gP (eI .u64) x) (gP (eI .u64) x) = True := Zrb Ke x
theorem Zcs {k : Nat} (x : Option Int) : (gP (eI .u64) x).under k = true := Zcr Ke k x
theorem Zco {ρ : Nat → Nat} (xs : List Int) : G.rens ρ (fl (eI .u64) xs) = fl (eI .u64) xs := Kz ρ _ (Yh Ke xs)
theorem Zcn {ρ : Nat → Nat} (x : Option Int) : (gP (eI .u64) x).ren ρ = gP (eI .u64) x := Zbh ρ _ (Ue Ke x)
theorem Zee {k : Nat} (xs : List Int) : G.unders k (fl (eI .u64) xs) = true := Xl _ _ (Yh Ke xs)
theorem Ys : ∀ x, G.pures (Zb x) = true := fun x => by rw [← Ya]; exact Zd0 x
theorem Us {O O' : Objs} {n : Nat} (xs : List S_api_Tree) : Ge O O' n (fl Zb xs) (fl Zb xs) := Zej (Yh Ys xs)
theorem Ur {O O' : Objs} {n : Nat} (xs : List S_api_Tree) (b b' : List G) : Ge O O' n (fl Zb xs ++ b) (fl Zb xs ++ b') = Ge O O' n b b' := Zct b b' _ (Yh Ys xs)
theorem Ui (xs : List S_api_Tree) : (fl Zb xs).length = xs.length * 3 := Ja (f := Zb) (k := 3) (fun _ => rfl) xs
theorem Um (xs : List S_api_Tree) : (fl Zb xs).all G.one = true := Gf (fun x => by simp [eI, eB, eS, eL, eP, Zcx, G.one, Value.oneCell', Zb]) xs
theorem Ut {O O' : Objs} {n : Nat} (x : Option S_api_Tree) : wk O O' n (gP Zb x) (gP Zb x) = True := Zrb Ys x
theorem V5 {k : Nat} (x : Option S_api_Tree) : (gP Zb x).under k = true := Zcr Ys k x
theorem V2 {ρ : Nat → Nat} (xs : List S_api_Tree) : G.rens ρ (fl Zb xs) = fl Zb xs := Kz ρ _ (Yh Ys xs)
theorem V1 {ρ : Nat → Nat} (x : Option S_api_Tree) : (gP Zb x).ren ρ = gP Zb x := Zbh ρ _ (Ue Ys x)
theorem Up {k : Nat} (xs : List S_api_Tree) : G.unders k (fl Zb xs) = true := Xl _ _ (Yh Ys xs)
def Zm (x : Zo) : List G := [.val (.int .i64 x.At), .val (.int .u8 x.Mask), .val (.int .u64 x.Old), .val (.int .u64 x.New)]
mutual
def Qm : S_api_Edit → List G
 | ⟨f0, f1, f2, f3, f4, f5, f6⟩ => [.val (.int .i64 f0), .val (.int .i64 f1.Kind), .sl f1.Words.length (fl (eI .u64) f1.Words), .sl f1.Kids.length (fl Zb f1.Kids), .val (.int .i64 f2.Kind), .sl f2.Words.length (fl (eI .u64) f2.Words), .sl f2.Kids.length (fl Zb f2.Kids), .sl f3.length (fl Zm f3), .sl f4.length (Q9 f4), .val (.int .i64 f5), .sl f6.length (Gg f6)]
def U8 : List S_api_Edit → List G
 | [] => []
 | x :: xs => Qm x ++ U8 xs
def Y4 : S_api_KidEdit → List G
 | ⟨f0, f1⟩ => [.val (.int .i64 f0)] ++ Qm f1
def Q9 : List S_api_KidEdit → List G
 | [] => []
 | x :: xs => Y4 x ++ Q9 xs
def Jn : S_api_Op → List G
 | ⟨f0, f1, f2, f3⟩ => [.val (.int .i64 f0), .val (.int .i64 f1), .sl f2.length (fl Zb f2)] ++ Qm f3
def Gg : List S_api_Op → List G
 | [] => []
 | x :: xs => Jn x ++ Gg xs
end
theorem Zaa : ∀ xs, U8 xs = fl Qm xs
 | [] => by simp [U8, fl]
 | x :: xs => by rw [U8, Kv, Zaa xs]
theorem Ub : ∀ xs, Q9 xs = fl Y4 xs
 | [] => by simp [Q9, fl]
 | x :: xs => by rw [Q9, Kv, Ub xs]
theorem Za6 : ∀ xs, Gg xs = fl Jn xs
 | [] => by simp [Gg, fl]
 | x :: xs => by rw [Gg, Kv, Za6 xs]
def Yz (x : S_api_Edit) : List G := [.val (.int .i64 x.Kind), .val (.int .i64 x.Old.Kind), .sl x.Old.Words.length (fl (eI .u64) x.Old.Words), .sl x.Old.Kids.length (fl Zb x.Old.Kids), .val (.int .i64 x.New.Kind), .sl x.New.Words.length (fl (eI .u64) x.New.Words), .sl x.New.Kids.length (fl Zb x.New.Kids), .sl x.Words.length (fl Zm x.Words), .sl x.Kids.length (fl Y4 x.Kids), .val (.int .i64 x.List_), .sl x.Ops.length (fl Jn x.Ops)]
def Zp (x : S_api_KidEdit) : List G := [.val (.int .i64 x.At), .val (.int .i64 x.E.Kind), .val (.int .i64 x.E.Old.Kind), .sl x.E.Old.Words.length (fl (eI .u64) x.E.Old.Words), .sl x.E.Old.Kids.length (fl Zb x.E.Old.Kids), .val (.int .i64 x.E.New.Kind), .sl x.E.New.Words.length (fl (eI .u64) x.E.New.Words), .sl x.E.New.Kids.length (fl Zb x.E.New.Kids), .sl x.E.Words.length (fl Zm x.E.Words), .sl x.E.Kids.length (fl Y4 x.E.Kids), .val (.int .i64 x.E.List_), .sl x.E.Ops.length (fl Jn x.E.Ops)]
def Zt (x : S_api_Op) : List G := [.val (.int .i64 x.Kind), .val (.int .i64 x.N), .sl x.L.length (fl Zb x.L), .val (.int .i64 x.E.Kind), .val (.int .i64 x.E.Old.Kind), .sl x.E.Old.Words.length (fl (eI .u64) x.E.Old.Words), .sl x.E.Old.Kids.length (fl Zb x.E.Old.Kids), .val (.int .i64 x.E.New.Kind), .sl x.E.New.Words.length (fl (eI .u64) x.E.New.Words), .sl x.E.New.Kids.length (fl Zb x.E.New.Kids), .sl x.E.Words.length (fl Zm x.E.Words), .sl x.E.Kids.length (fl Y4 x.E.Kids), .val (.int .i64 x.E.List_), .sl x.E.Ops.length (fl Jn x.E.Ops)]
theorem Yv : Qm = Yz := by
 funext x
 obtain ⟨_, _, _, _, _, _, _⟩ := x
 simp only [Qm, Zaa, Y4, Ub, Jn, Za6, Yz, List.cons_append, List.nil_append, List.append_nil]
theorem Yj : Y4 = Zp := by
 funext x
 obtain ⟨_, ⟨_, _, _, _, _, _, _⟩⟩ := x
 simp only [Qm, Zaa, Y4, Ub, Jn, Za6, Zp, List.cons_append, List.nil_append, List.append_nil]
theorem Y5 : Jn = Zt := by
 funext x
 obtain ⟨_, _, _, ⟨_, _, _, _, _, _, _⟩⟩ := x
 simp only [Qm, Zaa, Y4, Ub, Jn, Za6, Zt, List.cons_append, List.nil_append, List.append_nil]
mutual
theorem Zdz : ∀ x, G.pures (Qm x) = true
 | ⟨f0, f1, f2, f3, f4, f5, f6⟩ => by simp [Qm, eP, Ue, eI, eB, eS, eL, G.pures, G.pure, Ga, Yh, Zd3 f4, Zjw f6, Ke, Ys, Zd2, Zm]
theorem Zn8 : ∀ xs, G.pures (U8 xs) = true
 | [] => rfl
 | x :: xs => by simp [U8, Ga, Zdz x, Zn8 xs]
theorem Zev : ∀ x, G.pures (Y4 x) = true
 | ⟨f0, f1⟩ => by simp [Y4, eP, Ue, eI, eB, eS, eL, G.pures, G.pure, Ga, Yh, Zdz f1, Ke, Ys, Zd2, Zm]
theorem Zd3 : ∀ xs, G.pures (Q9 xs) = true
 | [] => rfl
 | x :: xs => by simp [Q9, Ga, Zev x, Zd3 xs]
theorem Zln : ∀ x, G.pures (Jn x) = true
 | ⟨f0, f1, f2, f3⟩ => by simp [Jn, eP, Ue, eI, eB, eS, eL, G.pures, G.pure, Ga, Yh, Zdz f3, Ke, Ys, Zd2, Zm]
theorem Zjw : ∀ xs, G.pures (Gg xs) = true
 | [] => rfl
 | x :: xs => by simp [Gg, Ga, Zln x, Zjw xs]
end
def Z7 (x : Zf) : List G := [.sl x.left.length (fl Zb x.left), .sl x.out.length (fl Zb x.out)]
theorem Y0 : ∀ x, G.pures (Zm x) = true := fun x => by simp [eI, eB, eS, eL, eP, G.pures, G.pure, Yh, Ue, Zm, Ke, Ys, Ya, Yv, Yj, Y5]
theorem J4 {O O' : Objs} {n : Nat} (xs : List Zo) : Ge O O' n (fl Zm xs) (fl Zm xs) := Zej (Yh Y0 xs)
theorem J0 {O O' : Objs} {n : Nat} (xs : List Zo) (b b' : List G) : Ge O O' n (fl Zm xs ++ b) (fl Zm xs ++ b') = Ge O O' n b b' := Zct b b' _ (Yh Y0 xs)
theorem Jo (xs : List Zo) : (fl Zm xs).length = xs.length * 4 := Ja (f := Zm) (k := 4) (fun _ => rfl) xs
theorem Jt (xs : List Zo) : (fl Zm xs).all G.one = true := Gf (fun x => by simp [eI, eB, eS, eL, eP, Zcx, G.one, Value.oneCell', Zm]) xs
theorem J6 {O O' : Objs} {n : Nat} (x : Option Zo) : wk O O' n (gP Zm x) (gP Zm x) = True := Zrb Y0 x
theorem Q5 {k : Nat} (x : Option Zo) : (gP Zm x).under k = true := Zcr Y0 k x
theorem Q3 {ρ : Nat → Nat} (xs : List Zo) : G.rens ρ (fl Zm xs) = fl Zm xs := Kz ρ _ (Yh Y0 xs)
theorem Q1 {ρ : Nat → Nat} (x : Option Zo) : (gP Zm x).ren ρ = gP Zm x := Zbh ρ _ (Ue Y0 x)
theorem Jx {k : Nat} (xs : List Zo) : G.unders k (fl Zm xs) = true := Xl _ _ (Yh Y0 xs)
theorem Xc : ∀ x, G.pures (Zp x) = true := fun x => by rw [← Yj]; exact Zev x
theorem Kt {O O' : Objs} {n : Nat} (xs : List S_api_KidEdit) : Ge O O' n (fl Zp xs) (fl Zp xs) := Zej (Yh Xc xs)
theorem Ks {O O' : Objs} {n : Nat} (xs : List S_api_KidEdit) (b b' : List G) : Ge O O' n (fl Zp xs ++ b) (fl Zp xs ++ b') = Ge O O' n b b' := Zct b b' _ (Yh Xc xs)
theorem Kl (xs : List S_api_KidEdit) : (fl Zp xs).length = xs.length * 12 := Ja (f := Zp) (k := 12) (fun _ => rfl) xs
theorem Kq (xs : List S_api_KidEdit) : (fl Zp xs).all G.one = true := Gf (fun x => by simp [eI, eB, eS, eL, eP, Zcx, G.one, Value.oneCell', Zp]) xs
theorem Ku {O O' : Objs} {n : Nat} (x : Option S_api_KidEdit) : wk O O' n (gP Zp x) (gP Zp x) = True := Zrb Xc x
theorem Jz {k : Nat} (x : Option S_api_KidEdit) : (gP Zp x).under k = true := Zcr Xc k x
theorem Jw {ρ : Nat → Nat} (xs : List S_api_KidEdit) : G.rens ρ (fl Zp xs) = fl Zp xs := Kz ρ _ (Yh Xc xs)
theorem Jv {ρ : Nat → Nat} (x : Option S_api_KidEdit) : (gP Zp x).ren ρ = gP Zp x := Zbh ρ _ (Ue Xc x)
theorem Kr {k : Nat} (xs : List S_api_KidEdit) : G.unders k (fl Zp xs) = true := Xl _ _ (Yh Xc xs)
theorem Ji : ∀ x, G.pures (Zt x) = true := fun x => by rw [← Y5]; exact Zln x
theorem Gw {O O' : Objs} {n : Nat} (xs : List S_api_Op) : Ge O O' n (fl Zt xs) (fl Zt xs) := Zej (Yh Ji xs)
theorem Gv {O O' : Objs} {n : Nat} (xs : List S_api_Op) (b b' : List G) : Ge O O' n (fl Zt xs ++ b) (fl Zt xs ++ b') = Ge O O' n b b' := Zct b b' _ (Yh Ji xs)
theorem Gj (xs : List S_api_Op) : (fl Zt xs).length = xs.length * 14 := Ja (f := Zt) (k := 14) (fun _ => rfl) xs
theorem Gr (xs : List S_api_Op) : (fl Zt xs).all G.one = true := Gf (fun x => by simp [eI, eB, eS, eL, eP, Zcx, G.one, Value.oneCell', Zt]) xs
theorem Gy {O O' : Objs} {n : Nat} (x : Option S_api_Op) : wk O O' n (gP Zt x) (gP Zt x) = True := Zrb Ji x
theorem U7 {k : Nat} (x : Option S_api_Op) : (gP Zt x).under k = true := Zcr Ji k x
theorem U6 {ρ : Nat → Nat} (xs : List S_api_Op) : G.rens ρ (fl Zt xs) = fl Zt xs := Kz ρ _ (Yh Ji xs)
theorem U5 {ρ : Nat → Nat} (x : Option S_api_Op) : (gP Zt x).ren ρ = gP Zt x := Zbh ρ _ (Ue Ji x)
theorem Gu {k : Nat} (xs : List S_api_Op) : G.unders k (fl Zt xs) = true := Xl _ _ (Yh Ji xs)
theorem Xf : ∀ x, G.pures (Z7 x) = true := fun x => by simp [eI, eB, eS, eL, eP, G.pures, G.pure, Yh, Ue, Z7, Ke, Ys, Y0, Xc, Ji, Ya, Yv, Yj, Y5]
theorem J5 {O O' : Objs} {n : Nat} (xs : List Zf) : Ge O O' n (fl Z7 xs) (fl Z7 xs) := Zej (Yh Xf xs)
theorem J3 {O O' : Objs} {n : Nat} (xs : List Zf) (b b' : List G) : Ge O O' n (fl Z7 xs ++ b) (fl Z7 xs ++ b') = Ge O O' n b b' := Zct b b' _ (Yh Xf xs)
theorem Jp (xs : List Zf) : (fl Z7 xs).length = xs.length * 2 := Ja (f := Z7) (k := 2) (fun _ => rfl) xs
theorem Ju (xs : List Zf) : (fl Z7 xs).all G.one = true := Gf (fun x => by simp [eI, eB, eS, eL, eP, Zcx, G.one, Value.oneCell', Z7]) xs
theorem J7 {O O' : Objs} {n : Nat} (x : Option Zf) : wk O O' n (gP Z7 x) (gP Z7 x) = True := Zrb Xf x
theorem Q6 {k : Nat} (x : Option Zf) : (gP Z7 x).under k = true := Zcr Xf k x
theorem Q4 {ρ : Nat → Nat} (xs : List Zf) : G.rens ρ (fl Z7 xs) = fl Z7 xs := Kz ρ _ (Yh Xf xs)
theorem Q2 {ρ : Nat → Nat} (x : Option Zf) : (gP Z7 x).ren ρ = gP Z7 x := Zbh ρ _ (Ue Xf x)
theorem Jy {k : Nat} (xs : List Zf) : G.unders k (fl Z7 xs) = true := Xl _ _ (Yh Xf xs)
theorem Zd1 : ∀ x, G.pures ((eI .u8) x) = true := fun x => by simp [eI, eB, eS, eL, eP, G.pures, G.pure, Yh, Ue, Ke, Ys, Y0, Xc, Ji, Xf, Ya, Yv, Yj, Y5]
theorem Zgb {O O' : Objs} {n : Nat} (xs : List Int) : Ge O O' n (fl (eI .u8) xs) (fl (eI .u8) xs) := Zej (Yh Zd1 xs)
theorem Zf9 {O O' : Objs} {n : Nat} (xs : List Int) (b b' : List G) : Ge O O' n (fl (eI .u8) xs ++ b) (fl (eI .u8) xs ++ b') = Ge O O' n b b' := Zct b b' _ (Yh Zd1 xs)
theorem Zfo (xs : List Int) : (fl (eI .u8) xs).length = xs.length * 1 := Ja (f := (eI .u8)) (k := 1) (fun _ => rfl) xs
theorem Zfu (xs : List Int) : (fl (eI .u8) xs).all G.one = true := Gf (fun x => by simp [eI, eB, eS, eL, eP, Zcx, G.one, Value.oneCell']) xs
theorem Zgc {O O' : Objs} {n : Nat} (x : Option Int) : wk O O' n (gP (eI .u8) x) (gP (eI .u8) x) = True := Zrb Zd1 x
theorem Zef {k : Nat} (x : Option Int) : (gP (eI .u8) x).under k = true := Zcr Zd1 k x
theorem Zd7 {ρ : Nat → Nat} (xs : List Int) : G.rens ρ (fl (eI .u8) xs) = fl (eI .u8) xs := Kz ρ _ (Yh Zd1 xs)
theorem Zd6 {ρ : Nat → Nat} (x : Option Int) : (gP (eI .u8) x).ren ρ = gP (eI .u8) x := Zbh ρ _ (Ue Zd1 x)
theorem Zf8 {k : Nat} (xs : List Int) : G.unders k (fl (eI .u8) xs) = true := Xl _ _ (Yh Zd1 xs)
def Ym (x : S_api_Op) : List G := [.val (.int .i64 x.Kind), .val (.int .i64 x.N), .sl x.L.length (fl Zb x.L), .val (.int .i64 x.E.Kind), .val (.int .i64 x.E.Old.Kind), .sl x.E.Old.Words.length (fl (eI .u64) x.E.Old.Words), .sl x.E.Old.Kids.length (fl Zb x.E.Old.Kids), .val (.int .i64 x.E.New.Kind), .sl x.E.New.Words.length (fl (eI .u64) x.E.New.Words), .sl x.E.New.Kids.length (fl Zb x.E.New.Kids), .sl x.E.Words.length (fl Zm x.E.Words), .sl x.E.Kids.length (fl Zp x.E.Kids), .val (.int .i64 x.E.List_), .sl x.E.Ops.length (fl Zt x.E.Ops)]
def Vi (x : S_api_KidEdit) : List G := [.val (.int .i64 x.At), .val (.int .i64 x.E.Kind), .val (.int .i64 x.E.Old.Kind), .sl x.E.Old.Words.length (fl (eI .u64) x.E.Old.Words), .sl x.E.Old.Kids.length (fl Zb x.E.Old.Kids), .val (.int .i64 x.E.New.Kind), .sl x.E.New.Words.length (fl (eI .u64) x.E.New.Words), .sl x.E.New.Kids.length (fl Zb x.E.New.Kids), .sl x.E.Words.length (fl Zm x.E.Words), .sl x.E.Kids.length (fl Zp x.E.Kids), .val (.int .i64 x.E.List_), .sl x.E.Ops.length (fl Zt x.E.Ops)]
def Zh (x : S_api_Edit) : List G := [.val (.int .i64 x.Kind), .val (.int .i64 x.Old.Kind), .sl x.Old.Words.length (fl (eI .u64) x.Old.Words), .sl x.Old.Kids.length (fl Zb x.Old.Kids), .val (.int .i64 x.New.Kind), .sl x.New.Words.length (fl (eI .u64) x.New.Words), .sl x.New.Kids.length (fl Zb x.New.Kids), .sl x.Words.length (fl Zm x.Words), .sl x.Kids.length (fl Zp x.Kids), .val (.int .i64 x.List_), .sl x.Ops.length (fl Zt x.Ops)]
def Ze (x : S_api_Tree) : List G := [.val (.int .i64 x.Kind), .sl x.Words.length (fl (eI .u64) x.Words), .sl x.Kids.length (fl Zb x.Kids)]
def Q8 (x : Zo) : List G := [.val (.int .i64 x.At), .val (.int .u8 x.Mask), .val (.int .u64 x.Old), .val (.int .u64 x.New)]
end Go.Proofs.Ytmpkfolcikhofaa
