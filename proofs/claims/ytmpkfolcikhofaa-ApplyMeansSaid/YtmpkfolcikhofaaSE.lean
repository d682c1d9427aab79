/- Part SE of this seat's mirrors: functions of the seat's program, and the plain functions that they are; each theorem bears its own conditions. -/
import Derived.Test.YtmpkfolcikhofaaTy
import Derived.Test.YtmpkfolcikhofaaSD
namespace Go.Proofs.Ytmpkfolcikhofaa
open Go.RowKit
set_option linter.unusedVariables false
set_option linter.unusedSimpArgs false
set_option maxRecDepth 100000
set_option maxHeartbeats 1000000
mutual
def V3 : S_api_Tree → List G
 | ⟨f0, f1, f2⟩ => [.val (.int .i64 f0), .sl f1.length (fl (eI .u64) f1), .sl f2.length (V4 f2)]
def V4 : List S_api_Tree → List G
 | [] => []
 | x :: xs => V3 x ++ V4 xs
end
theorem Zfi : ∀ xs, V4 xs = fl V3 xs
 | [] => by simp [V4, fl]
 | x :: xs => by rw [V4, Kt, Zfi xs]
def Zb (x : S_api_Tree) : List G := [.val (.int .i64 x.Kind), .sl x.Words.length (fl (eI .u64) x.Words), .sl x.Kids.length (fl V3 x.Kids)]
theorem Yd : V3 = Zb := by
 funext x
 obtain ⟨_, _, _⟩ := x
 simp only [V3, Zfi, Zb, List.cons_append, List.nil_append, List.append_nil]
mutual
theorem Zdx : ∀ x, G.pures (V3 x) = true
 | ⟨f0, f1, f2⟩ => by simp [V3, eP, V9, eI, eB, eS, eL, G.pures, G.pure, U3, Yh, Zg4 f2]
theorem Zg4 : ∀ xs, G.pures (V4 xs) = true
 | [] => rfl
 | x :: xs => by simp [V4, U3, Zdx x, Zg4 xs]
end
theorem Zdz : ∀ x, G.pures (Zb x) = true := fun x => by rw [← Yd]; exact Zdx x
theorem Kb : ∀ x, G.pures ((eI .u64) x) = true := fun x => by simp [eI, eB, eS, eL, eP, G.pures, G.pure, Yh, V9, Yd]
theorem Zee {O O' : Objs} {n : Nat} (xs : List Int) : U6 O O' n (fl (eI .u64) xs) (fl (eI .u64) xs) := Zef (Yh Kb xs)
theorem Zed {O O' : Objs} {n : Nat} (xs : List Int) (b b' : List G) : U6 O O' n (fl (eI .u64) xs ++ b) (fl (eI .u64) xs ++ b') = U6 O O' n b b' := Zco b b' _ (Yh Kb xs)
theorem Zdg (xs : List Int) : (fl (eI .u64) xs).length = xs.length * 1 := Q8 (f := (eI .u64)) (k := 1) (fun _ => rfl) xs
theorem Zdo (xs : List Int) : (fl (eI .u64) xs).all G.one = true := U8 (fun x => by simp [eI, eB, eS, eL, eP, Zcs, G.one, Value.oneCell']) xs
theorem Zeg {O O' : Objs} {n : Nat} (x : Option Int) : wk O O' n (gP (eI .u64) x) (gP (eI .u64) x) = True := Zqv Kb x
theorem Zcn {k : Nat} (x : Option Int) : (gP (eI .u64) x).under k = true := Zcm Kb k x
theorem Zcj {ρ : Nat → Nat} (xs : List Int) : G.rens ρ (fl (eI .u64) xs) = fl (eI .u64) xs := Kw ρ _ (Yh Kb xs)
theorem Zci {ρ : Nat → Nat} (x : Option Int) : (gP (eI .u64) x).ren ρ = gP (eI .u64) x := Zbe ρ _ (V9 Kb x)
theorem Zea {k : Nat} (xs : List Int) : G.unders k (fl (eI .u64) xs) = true := Xl _ _ (Yh Kb xs)
theorem Ys : ∀ x, G.pures (Zb x) = true := fun x => by rw [← Yd]; exact Zdx x
theorem Um {O O' : Objs} {n : Nat} (xs : List S_api_Tree) : U6 O O' n (fl Zb xs) (fl Zb xs) := Zef (Yh Ys xs)
theorem Ul {O O' : Objs} {n : Nat} (xs : List S_api_Tree) (b b' : List G) : U6 O O' n (fl Zb xs ++ b) (fl Zb xs ++ b') = U6 O O' n b b' := Zco b b' _ (Yh Ys xs)
theorem Uc (xs : List S_api_Tree) : (fl Zb xs).length = xs.length * 3 := Q8 (f := Zb) (k := 3) (fun _ => rfl) xs
theorem Ug (xs : List S_api_Tree) : (fl Zb xs).all G.one = true := U8 (fun x => by simp [eI, eB, eS, eL, eP, Zcs, G.one, Value.oneCell', Zb]) xs
theorem Un {O O' : Objs} {n : Nat} (x : Option S_api_Tree) : wk O O' n (gP Zb x) (gP Zb x) = True := Zqv Ys x
theorem V2 {k : Nat} (x : Option S_api_Tree) : (gP Zb x).under k = true := Zcm Ys k x
theorem Vz {ρ : Nat → Nat} (xs : List S_api_Tree) : G.rens ρ (fl Zb xs) = fl Zb xs := Kw ρ _ (Yh Ys xs)
theorem Vy {ρ : Nat → Nat} (x : Option S_api_Tree) : (gP Zb x).ren ρ = gP Zb x := Zbe ρ _ (V9 Ys x)
theorem Uj {k : Nat} (xs : List S_api_Tree) : G.unders k (fl Zb xs) = true := Xl _ _ (Yh Ys xs)
def Zm (x : Zo) : List G := [.val (.int .i64 x.At), .val (.int .u8 x.Mask), .val (.int .u64 x.Old), .val (.int .u64 x.New)]
mutual
def Qk : S_api_Edit → List G
 | ⟨f0, f1, f2, f3, f4, f5, f6⟩ => [.val (.int .i64 f0), .val (.int .i64 f1.Kind), .sl f1.Words.length (fl (eI .u64) f1.Words), .sl f1.Kids.length (fl Zb f1.Kids), .val (.int .i64 f2.Kind), .sl f2.Words.length (fl (eI .u64) f2.Words), .sl f2.Kids.length (fl Zb f2.Kids), .sl f3.length (fl Zm f3), .sl f4.length (Q7 f4), .val (.int .i64 f5), .sl f6.length (U9 f6)]
def U1 : List S_api_Edit → List G
 | [] => []
 | x :: xs => Qk x ++ U1 xs
def Y5 : S_api_KidEdit → List G
 | ⟨f0, f1⟩ => [.val (.int .i64 f0)] ++ Qk f1
def Q7 : List S_api_KidEdit → List G
 | [] => []
 | x :: xs => Y5 x ++ Q7 xs
def Jm : S_api_Op → List G
 | ⟨f0, f1, f2, f3⟩ => [.val (.int .i64 f0), .val (.int .i64 f1), .sl f2.length (fl Zb f2)] ++ Qk f3
def U9 : List S_api_Op → List G
 | [] => []
 | x :: xs => Jm x ++ U9 xs
end
theorem Gv : ∀ xs, U1 xs = fl Qk xs
 | [] => by simp [U1, fl]
 | x :: xs => by rw [U1, Kt, Gv xs]
theorem V8 : ∀ xs, Q7 xs = fl Y5 xs
 | [] => by simp [Q7, fl]
 | x :: xs => by rw [Q7, Kt, V8 xs]
theorem Za2 : ∀ xs, U9 xs = fl Jm xs
 | [] => by simp [U9, fl]
 | x :: xs => by rw [U9, Kt, Za2 xs]
def Y0 (x : S_api_Edit) : List G := [.val (.int .i64 x.Kind), .val (.int .i64 x.Old.Kind), .sl x.Old.Words.length (fl (eI .u64) x.Old.Words), .sl x.Old.Kids.length (fl Zb x.Old.Kids), .val (.int .i64 x.New.Kind), .sl x.New.Words.length (fl (eI .u64) x.New.Words), .sl x.New.Kids.length (fl Zb x.New.Kids), .sl x.Words.length (fl Zm x.Words), .sl x.Kids.length (fl Y5 x.Kids), .val (.int .i64 x.List_), .sl x.Ops.length (fl Jm x.Ops)]
def Zp (x : S_api_KidEdit) : List G := [.val (.int .i64 x.At), .val (.int .i64 x.E.Kind), .val (.int .i64 x.E.Old.Kind), .sl x.E.Old.Words.length (fl (eI .u64) x.E.Old.Words), .sl x.E.Old.Kids.length (fl Zb x.E.Old.Kids), .val (.int .i64 x.E.New.Kind), .sl x.E.New.Words.length (fl (eI .u64) x.E.New.Words), .sl x.E.New.Kids.length (fl Zb x.E.New.Kids), .sl x.E.Words.length (fl Zm x.E.Words), .sl x.E.Kids.length (fl Y5 x.E.Kids), .val (.int .i64 x.E.List_), .sl x.E.Ops.length (fl Jm x.E.Ops)]
def Zt (x : S_api_Op) : List G := [.val (.int .i64 x.Kind), .val (.int .i64 x.N), .sl x.L.length (fl Zb x.L), .val (.int .i64 x.E.Kind), .val (.int .i64 x.E.Old.Kind), .sl x.E.Old.Words.length (fl (eI .u64) x.E.Old.Words), .sl x.E.Old.Kids.length (fl Zb x.E.Old.Kids), .val (.int .i64 x.E.New.Kind), .sl x.E.New.Words.length (fl (eI .u64) x.E.New.Words), .sl x.E.New.Kids.length (fl Zb x.E.New.Kids), .sl x.E.Words.length (fl Zm x.E.Words), .sl x.E.Kids.length (fl Y5 x.E.Kids), .val (.int .i64 x.E.List_), .sl x.E.Ops.length (fl Jm x.E.Ops)]
theorem Yw : Qk = Y0 := by
 funext x
 obtain ⟨_, _, _, _, _, _, _⟩ := x
 simp only [Qk, Gv, Y5, V8, Jm, Za2, Y0, List.cons_append, List.nil_append, List.append_nil]
theorem Yj : Y5 = Zp := by
 funext x
 obtain ⟨_, ⟨_, _, _, _, _, _, _⟩⟩ := x
 simp only [Qk, Gv, Y5, V8, Jm, Za2, Zp, List.cons_append, List.nil_append, List.append_nil]
theorem Y6 : Jm = Zt := by
 funext x
 obtain ⟨_, _, _, ⟨_, _, _, _, _, _, _⟩⟩ := x
 simp only [Qk, Gv, Y5, V8, Jm, Za2, Zt, List.cons_append, List.nil_append, List.append_nil]
mutual
theorem Zdw : ∀ x, G.pures (Qk x) = true
 | ⟨f0, f1, f2, f3, f4, f5, f6⟩ => by simp [Qk, eP, V9, eI, eB, eS, eL, G.pures, G.pure, U3, Yh, Zd0 f4, Zjo f6, Kb, Ys, Zdz, Zm]
theorem Znv : ∀ xs, G.pures (U1 xs) = true
 | [] => rfl
 | x :: xs => by simp [U1, U3, Zdw x, Znv xs]
theorem Zet : ∀ x, G.pures (Y5 x) = true
 | ⟨f0, f1⟩ => by simp [Y5, eP, V9, eI, eB, eS, eL, G.pures, G.pure, U3, Yh, Zdw f1, Kb, Ys, Zdz, Zm]
theorem Zd0 : ∀ xs, G.pures (Q7 xs) = true
 | [] => rfl
 | x :: xs => by simp [Q7, U3, Zet x, Zd0 xs]
theorem Zld : ∀ x, G.pures (Jm x) = true
 | ⟨f0, f1, f2, f3⟩ => by simp [Jm, eP, V9, eI, eB, eS, eL, G.pures, G.pure, U3, Yh, Zdw f3, Kb, Ys, Zdz, Zm]
theorem Zjo : ∀ xs, G.pures (U9 xs) = true
 | [] => rfl
 | x :: xs => by simp [U9, U3, Zld x, Zjo xs]
end
def Z7 (x : Zf) : List G := [.sl x.left.length (fl Zb x.left), .sl x.out.length (fl Zb x.out)]
theorem Y1 : ∀ x, G.pures (Zm x) = true := fun x => by simp [eI, eB, eS, eL, eP, G.pures, G.pure, Yh, V9, Zm, Kb, Ys, Yd, Yw, Yj, Y6]
theorem J3 {O O' : Objs} {n : Nat} (xs : List Zo) : U6 O O' n (fl Zm xs) (fl Zm xs) := Zef (Yh Y1 xs)
theorem Jz {O O' : Objs} {n : Nat} (xs : List Zo) (b b' : List G) : U6 O O' n (fl Zm xs ++ b) (fl Zm xs ++ b') = U6 O O' n b b' := Zco b b' _ (Yh Y1 xs)
theorem Jn (xs : List Zo) : (fl Zm xs).length = xs.length * 4 := Q8 (f := Zm) (k := 4) (fun _ => rfl) xs
theorem Js (xs : List Zo) : (fl Zm xs).all G.one = true := U8 (fun x => by simp [eI, eB, eS, eL, eP, Zcs, G.one, Value.oneCell', Zm]) xs
theorem J5 {O O' : Objs} {n : Nat} (x : Option Zo) : wk O O' n (gP Zm x) (gP Zm x) = True := Zqv Y1 x
theorem Q3 {k : Nat} (x : Option Zo) : (gP Zm x).under k = true := Zcm Y1 k x
theorem Q1 {ρ : Nat → Nat} (xs : List Zo) : G.rens ρ (fl Zm xs) = fl Zm xs := Kw ρ _ (Yh Y1 xs)
theorem Qz {ρ : Nat → Nat} (x : Option Zo) : (gP Zm x).ren ρ = gP Zm x := Zbe ρ _ (V9 Y1 x)
theorem Jw {k : Nat} (xs : List Zo) : G.unders k (fl Zm xs) = true := Xl _ _ (Yh Y1 xs)
theorem Xd : ∀ x, G.pures (Zp x) = true := fun x => by rw [← Yj]; exact Zet x
theorem Kr {O O' : Objs} {n : Nat} (xs : List S_api_KidEdit) : U6 O O' n (fl Zp xs) (fl Zp xs) := Zef (Yh Xd xs)
theorem Kq {O O' : Objs} {n : Nat} (xs : List S_api_KidEdit) (b b' : List G) : U6 O O' n (fl Zp xs ++ b) (fl Zp xs ++ b') = U6 O O' n b b' := Zco b b' _ (Yh Xd xs)
theorem Kj (xs : List S_api_KidEdit) : (fl Zp xs).length = xs.length * 12 := Q8 (f := Zp) (k := 12) (fun _ => rfl) xs
theorem Ko (xs : List S_api_KidEdit) : (fl Zp xs).all G.one = true := U8 (fun x => by simp [eI, eB, eS, eL, eP, Zcs, G.one, Value.oneCell', Zp]) xs
theorem Ks {O O' : Objs} {n : Nat} (x : Option S_api_KidEdit) : wk O O' n (gP Zp x) (gP Zp x) = True := Zqv Xd x
theorem Jy {k : Nat} (x : Option S_api_KidEdit) : (gP Zp x).under k = true := Zcm Xd k x
theorem Jv {ρ : Nat → Nat} (xs : List S_api_KidEdit) : G.rens ρ (fl Zp xs) = fl Zp xs := Kw ρ _ (Yh Xd xs)
theorem Ju {ρ : Nat → Nat} (x : Option S_api_KidEdit) : (gP Zp x).ren ρ = gP Zp x := Zbe ρ _ (V9 Xd x)
theorem Kp {k : Nat} (xs : List S_api_KidEdit) : G.unders k (fl Zp xs) = true := Xl _ _ (Yh Xd xs)
theorem Jh : ∀ x, G.pures (Zt x) = true := fun x => by rw [← Y6]; exact Zld x
theorem Gq {O O' : Objs} {n : Nat} (xs : List S_api_Op) : U6 O O' n (fl Zt xs) (fl Zt xs) := Zef (Yh Jh xs)
theorem Gp {O O' : Objs} {n : Nat} (xs : List S_api_Op) (b b' : List G) : U6 O O' n (fl Zt xs ++ b) (fl Zt xs ++ b') = U6 O O' n b b' := Zco b b' _ (Yh Jh xs)
theorem Gc (xs : List S_api_Op) : (fl Zt xs).length = xs.length * 14 := Q8 (f := Zt) (k := 14) (fun _ => rfl) xs
theorem Gj (xs : List S_api_Op) : (fl Zt xs).all G.one = true := U8 (fun x => by simp [eI, eB, eS, eL, eP, Zcs, G.one, Value.oneCell', Zt]) xs
theorem Gs {O O' : Objs} {n : Nat} (x : Option S_api_Op) : wk O O' n (gP Zt x) (gP Zt x) = True := Zqv Jh x
theorem U0 {k : Nat} (x : Option S_api_Op) : (gP Zt x).under k = true := Zcm Jh k x
theorem Uz {ρ : Nat → Nat} (xs : List S_api_Op) : G.rens ρ (fl Zt xs) = fl Zt xs := Kw ρ _ (Yh Jh xs)
theorem Uy {ρ : Nat → Nat} (x : Option S_api_Op) : (gP Zt x).ren ρ = gP Zt x := Zbe ρ _ (V9 Jh x)
theorem Gn {k : Nat} (xs : List S_api_Op) : G.unders k (fl Zt xs) = true := Xl _ _ (Yh Jh xs)
theorem Xg : ∀ x, G.pures (Z7 x) = true := fun x => by simp [eI, eB, eS, eL, eP, G.pures, G.pure, Yh, V9, Z7, Kb, Ys, Y1, Xd, Jh, Yd, Yw, Yj, Y6]
theorem J4 {O O' : Objs} {n : Nat} (xs : List Zf) : U6 O O' n (fl Z7 xs) (fl Z7 xs) := Zef (Yh Xg xs)
theorem J0 {O O' : Objs} {n : Nat} (xs : List Zf) (b b' : List G) : U6 O O' n (fl Z7 xs ++ b) (fl Z7 xs ++ b') = U6 O O' n b b' := Zco b b' _ (Yh Xg xs)
theorem Jo (xs : List Zf) : (fl Z7 xs).length = xs.length * 2 := Q8 (f := Z7) (k := 2) (fun _ => rfl) xs
theorem Jt (xs : List Zf) : (fl Z7 xs).all G.one = true := U8 (fun x => by simp [eI, eB, eS, eL, eP, Zcs, G.one, Value.oneCell', Z7]) xs
theorem J6 {O O' : Objs} {n : Nat} (x : Option Zf) : wk O O' n (gP Z7 x) (gP Z7 x) = True := Zqv Xg x
theorem Q4 {k : Nat} (x : Option Zf) : (gP Z7 x).under k = true := Zcm Xg k x
theorem Q2 {ρ : Nat → Nat} (xs : List Zf) : G.rens ρ (fl Z7 xs) = fl Z7 xs := Kw ρ _ (Yh Xg xs)
theorem Q0 {ρ : Nat → Nat} (x : Option Zf) : (gP Z7 x).ren ρ = gP Z7 x := Zbe ρ _ (V9 Xg x)
theorem Jx {k : Nat} (xs : List Zf) : G.unders k (fl Z7 xs) = true := Xl _ _ (Yh Xg xs)
theorem Zdy : ∀ x, G.pures ((eI .u8) x) = true := fun x => by simp [eI, eB, eS, eL, eP, G.pures, G.pure, Yh, V9, Kb, Ys, Y1, Xd, Jh, Xg, Yd, Yw, Yj, Y6]
theorem Zgb {O O' : Objs} {n : Nat} (xs : List Int) : U6 O O' n (fl (eI .u8) xs) (fl (eI .u8) xs) := Zef (Yh Zdy xs)
theorem Zf9 {O O' : Objs} {n : Nat} (xs : List Int) (b b' : List G) : U6 O O' n (fl (eI .u8) xs ++ b) (fl (eI .u8) xs ++ b') = U6 O O' n b b' := Zco b b' _ (Yh Zdy xs)
theorem Zfn (xs : List Int) : (fl (eI .u8) xs).length = xs.length * 1 := Q8 (f := (eI .u8)) (k := 1) (fun _ => rfl) xs
theorem Zfu (xs : List Int) : (fl (eI .u8) xs).all G.one = true := U8 (fun x => by simp [eI, eB, eS, eL, eP, Zcs, G.one, Value.oneCell']) xs
theorem Zgc {O O' : Objs} {n : Nat} (x : Option Int) : wk O O' n (gP (eI .u8) x) (gP (eI .u8) x) = True := Zqv Zdy x
theorem Zeb {k : Nat} (x : Option Int) : (gP (eI .u8) x).under k = true := Zcm Zdy k x
theorem Zd3 {ρ : Nat → Nat} (xs : List Int) : G.rens ρ (fl (eI .u8) xs) = fl (eI .u8) xs := Kw ρ _ (Yh Zdy xs)
theorem Zd2 {ρ : Nat → Nat} (x : Option Int) : (gP (eI .u8) x).ren ρ = gP (eI .u8) x := Zbe ρ _ (V9 Zdy x)
theorem Zf8 {k : Nat} (xs : List Int) : G.unders k (fl (eI .u8) xs) = true := Xl _ _ (Yh Zdy xs)
def Ym (x : S_api_Op) : List G := [.val (.int .i64 x.Kind), .val (.int .i64 x.N), .sl x.L.length (fl Zb x.L), .val (.int .i64 x.E.Kind), .val (.int .i64 x.E.Old.Kind), .sl x.E.Old.Words.length (fl (eI .u64) x.E.Old.Words), .sl x.E.Old.Kids.length (fl Zb x.E.Old.Kids), .val (.int .i64 x.E.New.Kind), .sl x.E.New.Words.length (fl (eI .u64) x.E.New.Words), .sl x.E.New.Kids.length (fl Zb x.E.New.Kids), .sl x.E.Words.length (fl Zm x.E.Words), .sl x.E.Kids.length (fl Zp x.E.Kids), .val (.int .i64 x.E.List_), .sl x.E.Ops.length (fl Zt x.E.Ops)]
def Vd (x : S_api_KidEdit) : List G := [.val (.int .i64 x.At), .val (.int .i64 x.E.Kind), .val (.int .i64 x.E.Old.Kind), .sl x.E.Old.Words.length (fl (eI .u64) x.E.Old.Words), .sl x.E.Old.Kids.length (fl Zb x.E.Old.Kids), .val (.int .i64 x.E.New.Kind), .sl x.E.New.Words.length (fl (eI .u64) x.E.New.Words), .sl x.E.New.Kids.length (fl Zb x.E.New.Kids), .sl x.E.Words.length (fl Zm x.E.Words), .sl x.E.Kids.length (fl Zp x.E.Kids), .val (.int .i64 x.E.List_), .sl x.E.Ops.length (fl Zt x.E.Ops)]
def Zh (x : S_api_Edit) : List G := [.val (.int .i64 x.Kind), .val (.int .i64 x.Old.Kind), .sl x.Old.Words.length (fl (eI .u64) x.Old.Words), .sl x.Old.Kids.length (fl Zb x.Old.Kids), .val (.int .i64 x.New.Kind), .sl x.New.Words.length (fl (eI .u64) x.New.Words), .sl x.New.Kids.length (fl Zb x.New.Kids), .sl x.Words.length (fl Zm x.Words), .sl x.Kids.length (fl Zp x.Kids), .val (.int .i64 x.List_), .sl x.Ops.length (fl Zt x.Ops)]
def Ze (x : S_api_Tree) : List G := [.val (.int .i64 x.Kind), .sl x.Words.length (fl (eI .u64) x.Words), .sl x.Kids.length (fl Zb x.Kids)]
def Q6 (x : Zo) : List G := [.val (.int .i64 x.At), .val (.int .u8 x.Mask), .val (.int .u64 x.Old), .val (.int .u64 x.New)]
end Go.Proofs.Ytmpkfolcikhofaa
