/- Part BE of this seat's mirrors: functions of the seat's program, and the plain functions that they are; each theorem bears its own conditions. -/
import Derived.Test.YtgpaglmhkklneaaTy
import Derived.Test.YtgpaglmhkklneaaBD
namespace Go.Proofs.Ytgpaglmhkklneaa
open Go.RowKit
set_option linter.unusedVariables false
set_option linter.unusedSimpArgs false
set_option maxRecDepth 100000
set_option maxHeartbeats 4000000
mutual
def Zca : Zb → List G
 | ⟨f0, f1, f2⟩ => [.val (.int .i64 f0), .sl f1.length (fl (eI .u64) f1), .sl f2.length (Zcb f2)]
def Zcb : List Zb → List G
 | [] => []
 | x :: xs => Zca x ++ Zcb xs
end
theorem Zk8 : ∀ xs, Zcb xs = fl Zca xs
 | [] => by simp [Zcb, fl]
 | x :: xs => by rw [Zcb, Zar, Zk8 xs]
def Za (x : Zb) : List G := [.val (.int .i64 x.Kind), .sl x.Words.length (fl (eI .u64) x.Words), .sl x.Kids.length (fl Zca x.Kids)]
theorem Yx : Zca = Za := by
 funext x
 obtain ⟨_, _, _⟩ := x
 simp only [Zca, Zk8, Za, List.cons_append, List.nil_append, List.append_nil]
mutual
theorem Zjn : ∀ x, G.pures (Zca x) = true
 | ⟨f0, f1, f2⟩ => by simp [Zca, eP, Vg, eI, eB, eS, eL, G.pures, G.pure, Zdy, Yf, Znm f2]
theorem Znm : ∀ xs, G.pures (Zcb xs) = true
 | [] => rfl
 | x :: xs => by simp [Zcb, Zdy, Zjn x, Znm xs]
end
theorem Zjp : ∀ x, G.pures (Za x) = true := fun x => by rw [← Yx]; exact Zjn x
theorem Ky : ∀ x, G.pures ((eI .u64) x) = true := fun x => by simp [eI, eB, eS, eL, eP, G.pures, G.pure, Yf, Vg, Yx]
theorem Znf {O O' : Objs} {n : Nat} (xs : List Int) : wkl O O' n (fl (eI .u64) xs) (fl (eI .u64) xs) := Zew (Yf Ky xs)
theorem Znd {O O' : Objs} {n : Nat} (xs : List Int) (b b' : List G) : wkl O O' n (fl (eI .u64) xs ++ b) (fl (eI .u64) xs ++ b') = wkl O O' n b b' := Zdv b b' _ (Yf Ky xs)
theorem Zmc (xs : List Int) : (fl (eI .u64) xs).length = xs.length * 1 := Jm (f := (eI .u64)) (k := 1) (fun _ => rfl) xs
theorem Zmo (xs : List Int) : (fl (eI .u64) xs).all G.one = true := U6 (fun x => by simp [eI, eB, eS, eL, eP, Zga, G.one, Value.oneCell']) xs
theorem Znh {O O' : Objs} {n : Nat} (x : Option Int) : wk O O' n (gP (eI .u64) x) (gP (eI .u64) x) = True := Zop Ky x
theorem Zku {k : Nat} (x : Option Int) : (gP (eI .u64) x).under k = true := Zdu Ky k x
theorem Zkr {ρ : Nat → Nat} (xs : List Int) : G.rens ρ (fl (eI .u64) xs) = fl (eI .u64) xs := Kz ρ _ (Yf Ky xs)
theorem Zkp {ρ : Nat → Nat} (x : Option Int) : (gP (eI .u64) x).ren ρ = gP (eI .u64) x := Zcy ρ _ (Vg Ky x)
theorem Zna {k : Nat} (xs : List Int) : G.unders k (fl (eI .u64) xs) = true := X1 _ _ (Yf Ky xs)
theorem Xh : ∀ x, G.pures (Za x) = true := fun x => by rw [← Yx]; exact Zjn x
theorem Zfh {O O' : Objs} {n : Nat} (xs : List Zb) : wkl O O' n (fl Za xs) (fl Za xs) := Zew (Yf Xh xs)
theorem Zff {O O' : Objs} {n : Nat} (xs : List Zb) (b b' : List G) : wkl O O' n (fl Za xs ++ b) (fl Za xs ++ b') = wkl O O' n b b' := Zdv b b' _ (Yf Xh xs)
theorem Ze4 (xs : List Zb) : (fl Za xs).length = xs.length * 3 := Jm (f := Za) (k := 3) (fun _ => rfl) xs
theorem Ze9 (xs : List Zb) : (fl Za xs).all G.one = true := U6 (fun x => by simp [eI, eB, eS, eL, eP, Zga, G.one, Value.oneCell', Za]) xs
theorem Zfj {O O' : Objs} {n : Nat} (x : Option Zb) : wk O O' n (gP Za x) (gP Za x) = True := Zop Xh x
theorem Zea {k : Nat} (x : Option Zb) : (gP Za x).under k = true := Zdu Xh k x
theorem Zd8 {ρ : Nat → Nat} (xs : List Zb) : G.rens ρ (fl Za xs) = fl Za xs := Kz ρ _ (Yf Xh xs)
theorem Zd6 {ρ : Nat → Nat} (x : Option Zb) : (gP Za x).ren ρ = gP Za x := Zcy ρ _ (Vg Xh x)
theorem Zfd {k : Nat} (xs : List Zb) : G.unders k (fl Za xs) = true := X1 _ _ (Yf Xh xs)
theorem V7 : ∀ x, G.pures ((eI .i64) x) = true := fun x => by simp [eI, eB, eS, eL, eP, G.pures, G.pure, Yf, Vg, Ky, Xh, Yx]
theorem Zne {O O' : Objs} {n : Nat} (xs : List Int) : wkl O O' n (fl (eI .i64) xs) (fl (eI .i64) xs) := Zew (Yf V7 xs)
theorem Znc {O O' : Objs} {n : Nat} (xs : List Int) (b b' : List G) : wkl O O' n (fl (eI .i64) xs ++ b) (fl (eI .i64) xs ++ b') = wkl O O' n b b' := Zdv b b' _ (Yf V7 xs)
theorem Zmb (xs : List Int) : (fl (eI .i64) xs).length = xs.length * 1 := Jm (f := (eI .i64)) (k := 1) (fun _ => rfl) xs
theorem Zmn (xs : List Int) : (fl (eI .i64) xs).all G.one = true := U6 (fun x => by simp [eI, eB, eS, eL, eP, Zga, G.one, Value.oneCell']) xs
theorem Zng {O O' : Objs} {n : Nat} (x : Option Int) : wk O O' n (gP (eI .i64) x) (gP (eI .i64) x) = True := Zop V7 x
theorem Zkt {k : Nat} (x : Option Int) : (gP (eI .i64) x).under k = true := Zdu V7 k x
theorem Zkq {ρ : Nat → Nat} (xs : List Int) : G.rens ρ (fl (eI .i64) xs) = fl (eI .i64) xs := Kz ρ _ (Yf V7 xs)
theorem Zko {ρ : Nat → Nat} (x : Option Int) : (gP (eI .i64) x).ren ρ = gP (eI .i64) x := Zcy ρ _ (Vg V7 x)
theorem Zm9 {k : Nat} (xs : List Int) : G.unders k (fl (eI .i64) xs) = true := X1 _ _ (Yf V7 xs)
def Zh (x : Zu) : List G := [.val (.int .i64 x.At), .val (.int .u8 x.Mask), .val (.int .u64 x.Old), .val (.int .u64 x.New)]
mutual
def K7 : Zc → List G
 | ⟨f0, f1, f2, f3, f4, f5, f6⟩ => [.val (.int .i64 f0), .val (.int .i64 f1.Kind), .sl f1.Words.length (fl (eI .u64) f1.Words), .sl f1.Kids.length (fl Za f1.Kids), .val (.int .i64 f2.Kind), .sl f2.Words.length (fl (eI .u64) f2.Words), .sl f2.Kids.length (fl Za f2.Kids), .sl f3.length (fl Zh f3), .sl f4.length (V0 f4), .val (.int .i64 f5), .sl f6.length (Zeg f6)]
def Zdw : List Zc → List G
 | [] => []
 | x :: xs => K7 x ++ Zdw xs
def Qq : Zp → List G
 | ⟨f0, f1⟩ => [.val (.int .i64 f0)] ++ K7 f1
def V0 : List Zp → List G
 | [] => []
 | x :: xs => Qq x ++ V0 xs
def Uh : Zm → List G
 | ⟨f0, f1, f2, f3⟩ => [.val (.int .i64 f0), .val (.int .i64 f1), .sl f2.length (fl Za f2)] ++ K7 f3
def Zeg : List Zm → List G
 | [] => []
 | x :: xs => Uh x ++ Zeg xs
end
theorem Ze2 : ∀ xs, Zdw xs = fl K7 xs
 | [] => by simp [Zdw, fl]
 | x :: xs => by rw [Zdw, Zar, Ze2 xs]
theorem Zcj : ∀ xs, V0 xs = fl Qq xs
 | [] => by simp [V0, fl]
 | x :: xs => by rw [V0, Zar, Zcj xs]
theorem Zgt : ∀ xs, Zeg xs = fl Uh xs
 | [] => by simp [Zeg, fl]
 | x :: xs => by rw [Zeg, Zar, Zgt xs]
def Zd (x : Zc) : List G := [.val (.int .i64 x.Kind), .val (.int .i64 x.Old.Kind), .sl x.Old.Words.length (fl (eI .u64) x.Old.Words), .sl x.Old.Kids.length (fl Za x.Old.Kids), .val (.int .i64 x.New.Kind), .sl x.New.Words.length (fl (eI .u64) x.New.Words), .sl x.New.Kids.length (fl Za x.New.Kids), .sl x.Words.length (fl Zh x.Words), .sl x.Kids.length (fl Qq x.Kids), .val (.int .i64 x.List_), .sl x.Ops.length (fl Uh x.Ops)]
def Zk (x : Zp) : List G := [.val (.int .i64 x.At), .val (.int .i64 x.E.Kind), .val (.int .i64 x.E.Old.Kind), .sl x.E.Old.Words.length (fl (eI .u64) x.E.Old.Words), .sl x.E.Old.Kids.length (fl Za x.E.Old.Kids), .val (.int .i64 x.E.New.Kind), .sl x.E.New.Words.length (fl (eI .u64) x.E.New.Words), .sl x.E.New.Kids.length (fl Za x.E.New.Kids), .sl x.E.Words.length (fl Zh x.E.Words), .sl x.E.Kids.length (fl Qq x.E.Kids), .val (.int .i64 x.E.List_), .sl x.E.Ops.length (fl Uh x.E.Ops)]
def Zg (x : Zm) : List G := [.val (.int .i64 x.Kind), .val (.int .i64 x.N), .sl x.L.length (fl Za x.L), .val (.int .i64 x.E.Kind), .val (.int .i64 x.E.Old.Kind), .sl x.E.Old.Words.length (fl (eI .u64) x.E.Old.Words), .sl x.E.Old.Kids.length (fl Za x.E.Old.Kids), .val (.int .i64 x.E.New.Kind), .sl x.E.New.Words.length (fl (eI .u64) x.E.New.Words), .sl x.E.New.Kids.length (fl Za x.E.New.Kids), .sl x.E.Words.length (fl Zh x.E.Words), .sl x.E.Kids.length (fl Qq x.E.Kids), .val (.int .i64 x.E.List_), .sl x.E.Ops.length (fl Uh x.E.Ops)]
theorem Xw : K7 = Zd := by
 funext x
 obtain ⟨_, _, _, _, _, _, _⟩ := x
 simp only [K7, Ze2, Qq, Zcj, Uh, Zgt, Zd, List.cons_append, List.nil_append, List.append_nil]
theorem Xe : Qq = Zk := by
 funext x
 obtain ⟨_, ⟨_, _, _, _, _, _, _⟩⟩ := x
 simp only [K7, Ze2, Qq, Zcj, Uh, Zgt, Zk, List.cons_append, List.nil_append, List.append_nil]
theorem Qr : Uh = Zg := by
 funext x
 obtain ⟨_, _, _, ⟨_, _, _, _, _, _, _⟩⟩ := x
 simp only [K7, Ze2, Qq, Zcj, Uh, Zgt, Zg, List.cons_append, List.nil_append, List.append_nil]
mutual
theorem Zhc : ∀ x, G.pures (K7 x) = true
 | ⟨f0, f1, f2, f3, f4, f5, f6⟩ => by simp [K7, eP, Vg, eI, eB, eS, eL, G.pures, G.pure, Zdy, Yf, Zjq f4, Zqj f6, Ky, Xh, V7, Zjp, Zh]
theorem Zvd : ∀ xs, G.pures (Zdw xs) = true
 | [] => rfl
 | x :: xs => by simp [Zdw, Zdy, Zhc x, Zvd xs]
theorem Zkn : ∀ x, G.pures (Qq x) = true
 | ⟨f0, f1⟩ => by simp [Qq, eP, Vg, eI, eB, eS, eL, G.pures, G.pure, Zdy, Yf, Zhc f1, Ky, Xh, V7, Zjp, Zh]
theorem Zjq : ∀ xs, G.pures (V0 xs) = true
 | [] => rfl
 | x :: xs => by simp [V0, Zdy, Zkn x, Zjq xs]
theorem Zss : ∀ x, G.pures (Uh x) = true
 | ⟨f0, f1, f2, f3⟩ => by simp [Uh, eP, Vg, eI, eB, eS, eL, G.pures, G.pure, Zdy, Yf, Zhc f3, Ky, Xh, V7, Zjp, Zh]
theorem Zqj : ∀ xs, G.pures (Zeg xs) = true
 | [] => rfl
 | x :: xs => by simp [Zeg, Zdy, Zss x, Zqj xs]
end
def Yb (x : Zo) : List G := [.val (.int .i64 x.now.Kind), .sl x.now.Words.length (fl (eI .u64) x.now.Words), .sl x.now.Kids.length (fl Za x.now.Kids), .sl x.done.length (fl Zd x.done), .sl x.back.length (fl Zd x.back)]
theorem Xn : ∀ x, G.pures (Zh x) = true := fun x => by simp [eI, eB, eS, eL, eP, G.pures, G.pure, Yf, Vg, Zh, Ky, Xh, V7, Yx, Xw, Xe, Qr]
theorem Zb6 {O O' : Objs} {n : Nat} (xs : List Zu) : wkl O O' n (fl Zh xs) (fl Zh xs) := Zew (Yf Xn xs)
theorem Zb4 {O O' : Objs} {n : Nat} (xs : List Zu) (b b' : List G) : wkl O O' n (fl Zh xs ++ b) (fl Zh xs ++ b') = wkl O O' n b b' := Zdv b b' _ (Yf Xn xs)
theorem Zbk (xs : List Zu) : (fl Zh xs).length = xs.length * 4 := Jm (f := Zh) (k := 4) (fun _ => rfl) xs
theorem Zbx (xs : List Zu) : (fl Zh xs).all G.one = true := U6 (fun x => by simp [eI, eB, eS, eL, eP, Zga, G.one, Value.oneCell', Zh]) xs
theorem Zb8 {O O' : Objs} {n : Nat} (x : Option Zu) : wk O O' n (gP Zh x) (gP Zh x) = True := Zop Xn x
theorem Za0 {k : Nat} (x : Option Zu) : (gP Zh x).under k = true := Zdu Xn k x
theorem Zax {ρ : Nat → Nat} (xs : List Zu) : G.rens ρ (fl Zh xs) = fl Zh xs := Kz ρ _ (Yf Xn xs)
theorem Zav {ρ : Nat → Nat} (x : Option Zu) : (gP Zh x).ren ρ = gP Zh x := Zcy ρ _ (Vg Xn x)
theorem Zb1 {k : Nat} (xs : List Zu) : G.unders k (fl Zh xs) = true := X1 _ _ (Yf Xn xs)
theorem Xz : ∀ x, G.pures (Zk x) = true := fun x => by rw [← Xe]; exact Zkn x
theorem Zco {O O' : Objs} {n : Nat} (xs : List Zp) : wkl O O' n (fl Zk xs) (fl Zk xs) := Zew (Yf Xz xs)
theorem Zcn {O O' : Objs} {n : Nat} (xs : List Zp) (b b' : List G) : wkl O O' n (fl Zk xs ++ b) (fl Zk xs ++ b') = wkl O O' n b b' := Zdv b b' _ (Yf Xz xs)
theorem Zck (xs : List Zp) : (fl Zk xs).length = xs.length * 12 := Jm (f := Zk) (k := 12) (fun _ => rfl) xs
theorem Zcl (xs : List Zp) : (fl Zk xs).all G.one = true := U6 (fun x => by simp [eI, eB, eS, eL, eP, Zga, G.one, Value.oneCell', Zk]) xs
theorem Zcp {O O' : Objs} {n : Nat} (x : Option Zp) : wk O O' n (gP Zk x) (gP Zk x) = True := Zop Xz x
theorem Zb3 {k : Nat} (x : Option Zp) : (gP Zk x).under k = true := Zdu Xz k x
theorem Zb0 {ρ : Nat → Nat} (xs : List Zp) : G.rens ρ (fl Zk xs) = fl Zk xs := Kz ρ _ (Yf Xz xs)
theorem Zbz {ρ : Nat → Nat} (x : Option Zp) : (gP Zk x).ren ρ = gP Zk x := Zcy ρ _ (Vg Xz x)
theorem Zcm {k : Nat} (xs : List Zp) : G.unders k (fl Zk xs) = true := X1 _ _ (Yf Xz xs)
theorem Kg : ∀ x, G.pures (Zg x) = true := fun x => by rw [← Qr]; exact Zss x
theorem Zhk {O O' : Objs} {n : Nat} (xs : List Zm) : wkl O O' n (fl Zg xs) (fl Zg xs) := Zew (Yf Kg xs)
theorem Zhj {O O' : Objs} {n : Nat} (xs : List Zm) (b b' : List G) : wkl O O' n (fl Zg xs ++ b) (fl Zg xs ++ b') = wkl O O' n b b' := Zdv b b' _ (Yf Kg xs)
theorem Zg4 (xs : List Zm) : (fl Zg xs).length = xs.length * 14 := Jm (f := Zg) (k := 14) (fun _ => rfl) xs
theorem Zha (xs : List Zm) : (fl Zg xs).all G.one = true := U6 (fun x => by simp [eI, eB, eS, eL, eP, Zga, G.one, Value.oneCell', Zg]) xs
theorem Zhl {O O' : Objs} {n : Nat} (x : Option Zm) : wk O O' n (gP Zg x) (gP Zg x) = True := Zop Kg x
theorem Zf2 {k : Nat} (x : Option Zm) : (gP Zg x).under k = true := Zdu Kg k x
theorem Zf0 {ρ : Nat → Nat} (xs : List Zm) : G.rens ρ (fl Zg xs) = fl Zg xs := Kz ρ _ (Yf Kg xs)
theorem Zfz {ρ : Nat → Nat} (x : Option Zm) : (gP Zg x).ren ρ = gP Zg x := Zcy ρ _ (Vg Kg x)
theorem Zhi {k : Nat} (xs : List Zm) : G.unders k (fl Zg xs) = true := X1 _ _ (Yf Kg xs)
theorem Q1 : ∀ x, G.pures (Zd x) = true := fun x => by rw [← Xw]; exact Zhc x
theorem Zfg {O O' : Objs} {n : Nat} (xs : List Zc) : wkl O O' n (fl Zd xs) (fl Zd xs) := Zew (Yf Q1 xs)
theorem Zfe {O O' : Objs} {n : Nat} (xs : List Zc) (b b' : List G) : wkl O O' n (fl Zd xs ++ b) (fl Zd xs ++ b') = wkl O O' n b b' := Zdv b b' _ (Yf Q1 xs)
theorem Ze3 (xs : List Zc) : (fl Zd xs).length = xs.length * 11 := Jm (f := Zd) (k := 11) (fun _ => rfl) xs
theorem Ze8 (xs : List Zc) : (fl Zd xs).all G.one = true := U6 (fun x => by simp [eI, eB, eS, eL, eP, Zga, G.one, Value.oneCell', Zd]) xs
theorem Zfi {O O' : Objs} {n : Nat} (x : Option Zc) : wk O O' n (gP Zd x) (gP Zd x) = True := Zop Q1 x
theorem Zd9 {k : Nat} (x : Option Zc) : (gP Zd x).under k = true := Zdu Q1 k x
theorem Zd7 {ρ : Nat → Nat} (xs : List Zc) : G.rens ρ (fl Zd xs) = fl Zd xs := Kz ρ _ (Yf Q1 xs)
theorem Zd5 {ρ : Nat → Nat} (x : Option Zc) : (gP Zd x).ren ρ = gP Zd x := Zcy ρ _ (Vg Q1 x)
theorem Zfc {k : Nat} (xs : List Zc) : G.unders k (fl Zd xs) = true := X1 _ _ (Yf Q1 xs)
def Yn (x : Zj) : List G := [.sl x.left.length (fl Za x.left), .sl x.out.length (fl Za x.out)]
theorem X6 : ∀ x, G.pures (Yn x) = true := fun x => by simp [eI, eB, eS, eL, eP, G.pures, G.pure, Yf, Vg, Yn, Ky, Xh, V7, Xn, Xz, Kg, Q1, Yx, Xw, Xe, Qr]
theorem Zb7 {O O' : Objs} {n : Nat} (xs : List Zj) : wkl O O' n (fl Yn xs) (fl Yn xs) := Zew (Yf X6 xs)
theorem Zb5 {O O' : Objs} {n : Nat} (xs : List Zj) (b b' : List G) : wkl O O' n (fl Yn xs ++ b) (fl Yn xs ++ b') = wkl O O' n b b' := Zdv b b' _ (Yf X6 xs)
theorem Zbl (xs : List Zj) : (fl Yn xs).length = xs.length * 2 := Jm (f := Yn) (k := 2) (fun _ => rfl) xs
theorem Zby (xs : List Zj) : (fl Yn xs).all G.one = true := U6 (fun x => by simp [eI, eB, eS, eL, eP, Zga, G.one, Value.oneCell', Yn]) xs
theorem Zb9 {O O' : Objs} {n : Nat} (x : Option Zj) : wk O O' n (gP Yn x) (gP Yn x) = True := Zop X6 x
theorem Za1 {k : Nat} (x : Option Zj) : (gP Yn x).under k = true := Zdu X6 k x
theorem Zay {ρ : Nat → Nat} (xs : List Zj) : G.rens ρ (fl Yn xs) = fl Yn xs := Kz ρ _ (Yf X6 xs)
theorem Zaw {ρ : Nat → Nat} (x : Option Zj) : (gP Yn x).ren ρ = gP Yn x := Zcy ρ _ (Vg X6 x)
theorem Zb2 {k : Nat} (xs : List Zj) : G.unders k (fl Yn xs) = true := X1 _ _ (Yf X6 xs)
def Yj (x : Zx) : List G := [.sl x.out.length (fl Zg x.out), .val (.int .i64 x.kept), .sl x.gone.length (fl Za x.gone), .sl x.come.length (fl Za x.come)]
theorem Qh : ∀ x, G.pures (Yj x) = true := fun x => by simp [eI, eB, eS, eL, eP, G.pures, G.pure, Yf, Vg, Yj, Ky, Xh, V7, Xn, Xz, Kg, Q1, X6, Yx, Xw, Xe, Qr]
theorem Za3 {O O' : Objs} {n : Nat} (xs : List Zx) : wkl O O' n (fl Yj xs) (fl Yj xs) := Zew (Yf Qh xs)
theorem Za2 {O O' : Objs} {n : Nat} (xs : List Zx) (b b' : List G) : wkl O O' n (fl Yj xs ++ b) (fl Yj xs ++ b') = wkl O O' n b b' := Zdv b b' _ (Yf Qh xs)
theorem Zas (xs : List Zx) : (fl Yj xs).length = xs.length * 4 := Jm (f := Yj) (k := 4) (fun _ => rfl) xs
theorem Zau (xs : List Zx) : (fl Yj xs).all G.one = true := U6 (fun x => by simp [eI, eB, eS, eL, eP, Zga, G.one, Value.oneCell', Yj]) xs
theorem Za4 {O O' : Objs} {n : Nat} (x : Option Zx) : wk O O' n (gP Yj x) (gP Yj x) = True := Zop Qh x
theorem Gn {k : Nat} (x : Option Zx) : (gP Yj x).under k = true := Zdu Qh k x
theorem Gm {ρ : Nat → Nat} (xs : List Zx) : G.rens ρ (fl Yj xs) = fl Yj xs := Kz ρ _ (Yf Qh xs)
theorem Gl {ρ : Nat → Nat} (x : Option Zx) : (gP Yj x).ren ρ = gP Yj x := Zcy ρ _ (Vg Qh x)
theorem Zaz {k : Nat} (xs : List Zx) : G.unders k (fl Yj xs) = true := X1 _ _ (Yf Qh xs)
theorem Qg : ∀ x, G.pures (Yb x) = true := fun x => by simp [eI, eB, eS, eL, eP, G.pures, G.pure, Yf, Vg, Yb, Ky, Xh, V7, Xn, Xz, Kg, Q1, X6, Qh, Yx, Xw, Xe, Qr]
theorem U3 {O O' : Objs} {n : Nat} (xs : List Zo) : wkl O O' n (fl Yb xs) (fl Yb xs) := Zew (Yf Qg xs)
theorem U2 {O O' : Objs} {n : Nat} (xs : List Zo) (b b' : List G) : wkl O O' n (fl Yb xs ++ b) (fl Yb xs ++ b') = wkl O O' n b b' := Zdv b b' _ (Yf Qg xs)
theorem Us (xs : List Zo) : (fl Yb xs).length = xs.length * 5 := Jm (f := Yb) (k := 5) (fun _ => rfl) xs
theorem Uz (xs : List Zo) : (fl Yb xs).all G.one = true := U6 (fun x => by simp [eI, eB, eS, eL, eP, Zga, G.one, Value.oneCell', Yb]) xs
theorem U5 {O O' : Objs} {n : Nat} (x : Option Zo) : wk O O' n (gP Yb x) (gP Yb x) = True := Zop Qg x
theorem Ud {k : Nat} (x : Option Zo) : (gP Yb x).under k = true := Zdu Qg k x
theorem Uc {ρ : Nat → Nat} (xs : List Zo) : G.rens ρ (fl Yb xs) = fl Yb xs := Kz ρ _ (Yf Qg xs)
theorem Ub {ρ : Nat → Nat} (x : Option Zo) : (gP Yb x).ren ρ = gP Yb x := Zcy ρ _ (Vg Qg x)
theorem U1 {k : Nat} (xs : List Zo) : G.unders k (fl Yb xs) = true := X1 _ _ (Yf Qg xs)
theorem Zjo : ∀ x, G.pures ((eI .u8) x) = true := fun x => by simp [eI, eB, eS, eL, eP, G.pures, G.pure, Yf, Vg, Ky, Xh, V7, Xn, Xz, Kg, Q1, X6, Qh, Qg, Yx, Xw, Xe, Qr]
theorem Zp2 {O O' : Objs} {n : Nat} (xs : List Int) : wkl O O' n (fl (eI .u8) xs) (fl (eI .u8) xs) := Zew (Yf Zjo xs)
theorem Zp1 {O O' : Objs} {n : Nat} (xs : List Int) (b b' : List G) : wkl O O' n (fl (eI .u8) xs ++ b) (fl (eI .u8) xs ++ b') = wkl O O' n b b' := Zdv b b' _ (Yf Zjo xs)
theorem Zpd (xs : List Int) : (fl (eI .u8) xs).length = xs.length * 1 := Jm (f := (eI .u8)) (k := 1) (fun _ => rfl) xs
theorem Zph (xs : List Int) : (fl (eI .u8) xs).all G.one = true := U6 (fun x => by simp [eI, eB, eS, eL, eP, Zga, G.one, Value.oneCell']) xs
theorem Zp3 {O O' : Objs} {n : Nat} (x : Option Int) : wk O O' n (gP (eI .u8) x) (gP (eI .u8) x) = True := Zop Zjo x
theorem Znb {k : Nat} (x : Option Int) : (gP (eI .u8) x).under k = true := Zdu Zjo k x
theorem Zmx {ρ : Nat → Nat} (xs : List Int) : G.rens ρ (fl (eI .u8) xs) = fl (eI .u8) xs := Kz ρ _ (Yf Zjo xs)
theorem Zmw {ρ : Nat → Nat} (x : Option Int) : (gP (eI .u8) x).ren ρ = gP (eI .u8) x := Zcy ρ _ (Vg Zjo x)
theorem Zp0 {k : Nat} (xs : List Int) : G.unders k (fl (eI .u8) xs) = true := X1 _ _ (Yf Zjo xs)
def Zci (x : Zbc) : List G := [.val (.int .i64 x.Kind), .val (.int .i64 x.I), .val (.int .i64 x.E.Kind), .val (.int .i64 x.E.Old.Kind), .sl x.E.Old.Words.length (fl (eI .u64) x.E.Old.Words), .sl x.E.Old.Kids.length (fl Za x.E.Old.Kids), .val (.int .i64 x.E.New.Kind), .sl x.E.New.Words.length (fl (eI .u64) x.E.New.Words), .sl x.E.New.Kids.length (fl Za x.E.New.Kids), .sl x.E.Words.length (fl Zh x.E.Words), .sl x.E.Kids.length (fl Zk x.E.Kids), .val (.int .i64 x.E.List_), .sl x.E.Ops.length (fl Zg x.E.Ops)]
def Yq (x : Zm) : List G := [.val (.int .i64 x.Kind), .val (.int .i64 x.N), .sl x.L.length (fl Za x.L), .val (.int .i64 x.E.Kind), .val (.int .i64 x.E.Old.Kind), .sl x.E.Old.Words.length (fl (eI .u64) x.E.Old.Words), .sl x.E.Old.Kids.length (fl Za x.E.Old.Kids), .val (.int .i64 x.E.New.Kind), .sl x.E.New.Words.length (fl (eI .u64) x.E.New.Words), .sl x.E.New.Kids.length (fl Za x.E.New.Kids), .sl x.E.Words.length (fl Zh x.E.Words), .sl x.E.Kids.length (fl Zk x.E.Kids), .val (.int .i64 x.E.List_), .sl x.E.Ops.length (fl Zg x.E.Ops)]
def Vh (x : Zbc) : List G := [.val (.int .i64 x.Kind), .val (.int .i64 x.I), .val (.int .i64 x.E.Kind), .val (.int .i64 x.E.Old.Kind), .sl x.E.Old.Words.length (fl (eI .u64) x.E.Old.Words), .sl x.E.Old.Kids.length (fl Za x.E.Old.Kids), .val (.int .i64 x.E.New.Kind), .sl x.E.New.Words.length (fl (eI .u64) x.E.New.Words), .sl x.E.New.Kids.length (fl Za x.E.New.Kids), .sl x.E.Words.length (fl Zh x.E.Words), .sl x.E.Kids.length (fl Zk x.E.Kids), .val (.int .i64 x.E.List_), .sl x.E.Ops.length (fl Zg x.E.Ops)]
def Za7 (x : Zp) : List G := [.val (.int .i64 x.At), .val (.int .i64 x.E.Kind), .val (.int .i64 x.E.Old.Kind), .sl x.E.Old.Words.length (fl (eI .u64) x.E.Old.Words), .sl x.E.Old.Kids.length (fl Za x.E.Old.Kids), .val (.int .i64 x.E.New.Kind), .sl x.E.New.Words.length (fl (eI .u64) x.E.New.Words), .sl x.E.New.Kids.length (fl Za x.E.New.Kids), .sl x.E.Words.length (fl Zh x.E.Words), .sl x.E.Kids.length (fl Zk x.E.Kids), .val (.int .i64 x.E.List_), .sl x.E.Ops.length (fl Zg x.E.Ops)]
def Zi (x : Zc) : List G := [.val (.int .i64 x.Kind), .val (.int .i64 x.Old.Kind), .sl x.Old.Words.length (fl (eI .u64) x.Old.Words), .sl x.Old.Kids.length (fl Za x.Old.Kids), .val (.int .i64 x.New.Kind), .sl x.New.Words.length (fl (eI .u64) x.New.Words), .sl x.New.Kids.length (fl Za x.New.Kids), .sl x.Words.length (fl Zh x.Words), .sl x.Kids.length (fl Zk x.Kids), .val (.int .i64 x.List_), .sl x.Ops.length (fl Zg x.Ops)]
def Ze (x : Zb) : List G := [.val (.int .i64 x.Kind), .sl x.Words.length (fl (eI .u64) x.Words), .sl x.Kids.length (fl Za x.Kids)]
def Gs (x : Zu) : List G := [.val (.int .i64 x.At), .val (.int .u8 x.Mask), .val (.int .u64 x.Old), .val (.int .u64 x.New)]
abbrev vI (x : Int) : G := .val (.int .i64 x)
abbrev vB (x : Bool) : G := .val (.bool x)
abbrev nV : G := .val (.slice none 0 0)
abbrev sL {α : Type} (e : α → List G) (x : List α) : G := .sl x.length (fl e x)
abbrev oR {α : Type} (t s : Nat) (e : α → List G) (x : List α) : GObj := ⟨true, t, s, x.length, fl e x⟩
theorem zFn {f : FuncId} {gs : List G} {O O2 : Objs} {n n2 : Nat} {r : G} {fn : Func} {c : Code} (hc : ∀ args w, (callFunc f args).run Try.prog w = .ok (.enter f args) w) (hf : Try.prog.funcs[f]? = some fn) (h : Und O n → O n = none → (∀ k, O (n + k) = none) → W Try.prog n c (Fin Kq fn.results.toList r n O2 n2) ⟨fn.ntmps, [], Zc3 0 gs⟩ (Zv O n []) n) (hb : fn.body = some c := by exact rfl) (hn : gs.length ≤ fn.ntmps := by exact Nat.le_of_ble_eq_true rfl) (h2 : n ≤ n2 := by first | exact Nat.le_refl _ | omega) : GTo Try.prog f gs O n r O2 n2 := Zi6 Z0 hc hf hb hn h2 fun hU => h hU (hU.fresh _ (Nat.le_refl _)) fun k => hU.fresh _ (Nat.le_add_right _ _)
structure Hid (p : Prop) : Prop where
 get : p
structure Ar {α : Type} (a : α) : Prop where
def Ar.v {α : Type} {a : α} (_ : Ar a) : α := a
theorem zQ {A B : Prop} (l0 : List Nat) (b : B) (e : Ar l0 → Hid B → A := by intro x0 bZ; refine Zno x0.v (Ys Z0 [] ?_); simp only [push_cast, seval, ↓reduceIte, Zf, Ar.v, hN0, hN]; exact bZ.get) : A := e ⟨⟩ ⟨b⟩
theorem zQD {A B : Prop} (l0 : List Nat) (l1 : List (Option Bool)) (b : B) (e : Ar l0 → Ar l1 → Hid B → A := by intro x0 x1 bZ; refine Zno x0.v (Ys Z0 x1.v ?_); simp only [push_cast, seval, ↓reduceIte, Zf, Ar.v, hN0, hN]; (repeat (with_reducible refine And.intro (by first | (intro h0; simp only [h0, and_self]; done) | (intro h0; simp only [h0, Bool.not_false, Bool.not_true, Bool.true_and, Bool.and_true, true_and, and_true, and_self, imp_self, implies_true, bne_iff_ne, ne_eq, beq_iff_eq]; done) | (intros; simp_all; done) | exact True.intro) ?_)); exact bZ.get) : A := e ⟨⟩ ⟨⟩ ⟨b⟩
theorem Y4 {A : Prop} (l0 : List G) (e : Ar l0 → A := by intro x0; refine Yd7 ?_; (try simp only [Y2, Ye]); have h := Option.some.inj h; subst h; refine Zvh (.inr rfl) hU x0.v (by omega) ?_; simp only [push_cast, seval, ↓reduceIte, Zf, Ar.v, hN0, hN]) : A := e ⟨⟩
theorem Jq {A B : Prop} (l0 : List Nat) (l1 : List Bool) (b : B) (e : Ar l0 → Ar l1 → Hid B → A := by intro x0 x1 bZ; refine Z9w ?_; (try simp only [Y2, Ye]); refine Ztr x0.v x1.v ?_; simp only [push_cast, seval, ↓reduceIte, Ar.v]; exact bZ.get) : A := e ⟨⟩ ⟨⟩ ⟨b⟩
theorem zQd {A B : Prop} (l0 : List Nat) (l1 : List Nat) (l2 : List Bool) (b : B) (e : Ar l0 → Ar l1 → Ar l2 → Hid B → A := by intro x0 x1 x2 bZ; refine Zno x0.v (Ys Z0 [] ?_); simp only [push_cast, seval, ↓reduceIte, Zf, Ar.v, hN0, hN]; refine Ztr x1.v x2.v ?_; simp only [push_cast, seval, ↓reduceIte, Ar.v]; exact bZ.get) : A := e ⟨⟩ ⟨⟩ ⟨⟩ ⟨b⟩
theorem Zc2 {A B : Prop} (l0 : List (Option Bool)) {P1 : Prop} (p1 : P1) {P2 : Prop} (p2 : P2) {P3 : Prop} (p3 : P3) (b : B) (e : Ar l0 → P1 → P2 → P3 → Hid B → A := by intro x0 x1 x2 x3 bZ; refine Ys Z0 x0.v ?_; simp only [push_cast, Nat.reduceAdd, Nat.reduceSub, Nat.reduceMul, Nat.reduceLeDiff, Nat.reduceLT, Nat.reduceEqDiff, ↓reduceIte, reduceCtorEq, Int.reduceBEq, Int.reduceBNe, Nat.reduceBEq, Int.reduceLE, Int.reduceLT, Int.reduceEq, Int.reduceNe, Int.reduceNeg, Nat.reduceDiv, Nat.reduceMod, Nat.reducePow, Zf, Ar.v, x1, x2, x3, hN0, hN]; exact bZ.get) : A := e ⟨⟩ p1 p2 p3 ⟨b⟩
theorem zF3 {A B : Prop} {P0 : Prop} (p0 : P0) {P1 : Prop} (p1 : P1) {P2 : Prop} (p2 : P2) (b : B) (e : P0 → P1 → P2 → Hid B → A := by intro x0 x1 x2 bZ; simp only [push_cast, Nat.reduceAdd, Nat.reduceSub, Nat.reduceMul, Nat.reduceLeDiff, Nat.reduceLT, Nat.reduceEqDiff, ↓reduceIte, reduceCtorEq, Int.reduceBEq, Int.reduceBNe, Nat.reduceBEq, Int.reduceLE, Int.reduceLT, Int.reduceEq, Int.reduceNe, Int.reduceNeg, Nat.reduceDiv, Nat.reduceMod, Nat.reducePow, Zf, x0, x1, x2, hN0, hN]; exact bZ.get) : A := e p0 p1 p2 ⟨b⟩
theorem zD {A B : Prop} (l0 : List Nat) (l1 : List Bool) (b : B) (e : Ar l0 → Ar l1 → Hid B → A := by intro x0 x1 bZ; refine Ztr x0.v x1.v ?_; simp only [push_cast, seval, ↓reduceIte, Ar.v]; exact bZ.get) : A := e ⟨⟩ ⟨⟩ ⟨b⟩
theorem zR {A B : Prop} (b : B) (e : Hid B → A := by intro bZ; refine Ys Z0 [] ?_; simp only [push_cast, seval, ↓reduceIte, Zf, hN0, hN]; exact bZ.get) : A := e ⟨b⟩
theorem zEn {A : Prop} {P0 : Prop} (p0 : P0) (e : P0 → A := by intro x0; have h9 := Option.some.inj x0; subst h9; refine And.intro rfl (Fit2.of (Yw hU rfl rfl ?_) (by omega)); simp only [push_cast, seval, ↓reduceIte, Zf, hN0, hN]) : A := e p0
theorem zEx {A : Prop} {P0 : Prop} (p0 : P0) (e : P0 → A := by intro x0; refine Z9u ?_; (try simp only [Y2, Ye, ↓reduceIte, Nat.reduceEqDiff]); have h9 := Option.some.inj x0; subst h9; refine And.intro (fun h => by cases h) (And.intro rfl (Fit2.of (Yw hU rfl rfl ?_) (by omega))); simp only [push_cast, seval, ↓reduceIte, Zf, hN0, hN]) : A := e p0
theorem zCd {A B : Prop} {P0 : Prop} (p0 : P0) (l1 : List Nat) (l2 : List Bool) (b : B) (e : P0 → Ar l1 → Ar l2 → Hid B → A := by intro x0 x1 x2 bZ; refine Ys Z0 [] ?_; simp only [push_cast, seval, ↓reduceIte, Zf, hN0, hN]; refine x0.then ?_; simp only [push_cast, seval, ↓reduceIte, Zf, hN0, hN]; refine Ztr x1.v x2.v ?_; simp only [push_cast, seval, ↓reduceIte, Ar.v]; exact bZ.get) : A := e p0 ⟨⟩ ⟨⟩ ⟨b⟩
theorem zRd {A B : Prop} (l0 : List Nat) (l1 : List Bool) (b : B) (e : Ar l0 → Ar l1 → Hid B → A := by intro x0 x1 bZ; refine Ys Z0 [] ?_; simp only [push_cast, seval, ↓reduceIte, Zf, hN0, hN]; refine Ztr x0.v x1.v ?_; simp only [push_cast, seval, ↓reduceIte, Ar.v]; exact bZ.get) : A := e ⟨⟩ ⟨⟩ ⟨b⟩
theorem zDs {A B : Prop} (l0 : List Nat) (l1 : List Bool) (b : B) (e : Ar l0 → Ar l1 → Hid B → A := by intro x0 x1 bZ; refine Ztr x0.v x1.v ?_; simp only [push_cast, seval, ↓reduceIte, Ar.v]; refine Zl ?_; exact bZ.get) : A := e ⟨⟩ ⟨⟩ ⟨b⟩
theorem zW {A B : Prop} (b : B) (e : Hid B → A := by intro bZ; refine Yd7 ?_; (try simp only [Y2, Ye]); exact bZ.get) : A := e ⟨b⟩
theorem zEy {A : Prop} {P0 : Prop} (p0 : P0) (e : P0 → A := by intro x0; have h9 := Option.some.inj x0; subst h9; refine And.intro (fun h => by cases h) (And.intro rfl (Fit2.of (Yw hU rfl rfl ?_) (by omega))); simp only [push_cast, seval, ↓reduceIte, Zf, hN0, hN]) : A := e p0
theorem zX1 {A B : Prop} {P0 : Prop} (p0 : P0) (b : B) (e : P0 → Hid B → A := by intro x0 bZ; simp only [push_cast, seval, ↓reduceIte, Zf, x0, hN0, hN]; exact bZ.get) : A := e p0 ⟨b⟩
theorem zG {A B : Prop} (b : B) (e : Hid B → A := by intro bZ; (repeat (with_reducible refine And.intro (by first | (intro h0; simp only [h0, and_self]; done) | (intro h0; simp only [h0, Bool.not_false, Bool.not_true, Bool.true_and, Bool.and_true, true_and, and_true, and_self, imp_self, implies_true, bne_iff_ne, ne_eq, beq_iff_eq]; done) | (intros; simp_all; done) | exact True.intro) ?_)); exact bZ.get) : A := e ⟨b⟩
theorem Jb {A : Prop} {P0 : Prop} (p0 : P0) {P1 : Prop} (p1 : P1) (e : P0 → P1 → A := by intro x0 x1; have h9 := Option.some.inj x0; subst h9; refine And.intro rfl (Fit2.of (Yw hU rfl rfl ?_) (by omega)); simp only [push_cast, seval, ↓reduceIte, Zf, x1, hN0, hN]) : A := e p0 p1
theorem zX3 {A B : Prop} {P0 : Prop} (p0 : P0) {P1 : Prop} (p1 : P1) {P2 : Prop} (p2 : P2) (b : B) (e : P0 → P1 → P2 → Hid B → A := by intro x0 x1 x2 bZ; simp only [push_cast, seval, ↓reduceIte, Zf, x0, x1, x2, hN0, hN]; exact bZ.get) : A := e p0 p1 p2 ⟨b⟩
theorem Zj0 {A : Prop} {P0 : Prop} (p0 : P0) {P1 : Prop} (p1 : P1) {P2 : Prop} (p2 : P2) {P3 : Prop} (p3 : P3) (e : P0 → P1 → P2 → P3 → A := by intro x0 x1 x2 x3; have h9 := Option.some.inj x0; subst h9; refine And.intro rfl (Fit2.of (Yw hU rfl rfl ?_) (by omega)); simp only [push_cast, seval, ↓reduceIte, Zf, x1, x2, x3, hN0, hN]) : A := e p0 p1 p2 p3
theorem zF8 {A B : Prop} {P0 : Prop} (p0 : P0) {P1 : Prop} (p1 : P1) {P2 : Prop} (p2 : P2) {P3 : Prop} (p3 : P3) {P4 : Prop} (p4 : P4) {P5 : Prop} (p5 : P5) {P6 : Prop} (p6 : P6) {P7 : Prop} (p7 : P7) (b : B) (e : P0 → P1 → P2 → P3 → P4 → P5 → P6 → P7 → Hid B → A := by intro x0 x1 x2 x3 x4 x5 x6 x7 bZ; simp only [push_cast, Nat.reduceAdd, Nat.reduceSub, Nat.reduceMul, Nat.reduceLeDiff, Nat.reduceLT, Nat.reduceEqDiff, ↓reduceIte, reduceCtorEq, Int.reduceBEq, Int.reduceBNe, Nat.reduceBEq, Int.reduceLE, Int.reduceLT, Int.reduceEq, Int.reduceNe, Int.reduceNeg, Nat.reduceDiv, Nat.reduceMod, Nat.reducePow, Zf, x0, x1, x2, x3, x4, x5, x6, x7, hN0, hN]; exact bZ.get) : A := e p0 p1 p2 p3 p4 p5 p6 p7 ⟨b⟩
theorem Yes {A : Prop} {P0 : Prop} (p0 : P0) {P1 : Prop} (p1 : P1) {P2 : Prop} (p2 : P2) {P3 : Prop} (p3 : P3) {P4 : Prop} (p4 : P4) {P5 : Prop} (p5 : P5) {P6 : Prop} (p6 : P6) {P7 : Prop} (p7 : P7) {P8 : Prop} (p8 : P8) (e : P0 → P1 → P2 → P3 → P4 → P5 → P6 → P7 → P8 → A := by intro x0 x1 x2 x3 x4 x5 x6 x7 x8; have h9 := Option.some.inj x0; subst h9; refine And.intro rfl (Fit2.of (Yw hU rfl rfl ?_) (by omega)); simp only [push_cast, Nat.reduceAdd, Nat.reduceSub, Nat.reduceMul, Nat.reduceLeDiff, Nat.reduceLT, Nat.reduceEqDiff, ↓reduceIte, reduceCtorEq, Int.reduceBEq, Int.reduceBNe, Nat.reduceBEq, Int.reduceLE, Int.reduceLT, Int.reduceEq, Int.reduceNe, Int.reduceNeg, Nat.reduceDiv, Nat.reduceMod, Nat.reducePow, Zf, x1, x2, x3, x4, x5, x6, x7, x8, hN0, hN]) : A := e p0 p1 p2 p3 p4 p5 p6 p7 p8
theorem zX5 {A B : Prop} {P0 : Prop} (p0 : P0) {P1 : Prop} (p1 : P1) {P2 : Prop} (p2 : P2) {P3 : Prop} (p3 : P3) {P4 : Prop} (p4 : P4) (b : B) (e : P0 → P1 → P2 → P3 → P4 → Hid B → A := by intro x0 x1 x2 x3 x4 bZ; simp only [push_cast, seval, ↓reduceIte, Zf, x0, x1, x2, x3, x4, hN0, hN]; exact bZ.get) : A := e p0 p1 p2 p3 p4 ⟨b⟩
theorem Zu5 {A : Prop} {P0 : Prop} (p0 : P0) {P1 : Prop} (p1 : P1) {P2 : Prop} (p2 : P2) {P3 : Prop} (p3 : P3) {P4 : Prop} (p4 : P4) {P5 : Prop} (p5 : P5) (e : P0 → P1 → P2 → P3 → P4 → P5 → A := by intro x0 x1 x2 x3 x4 x5; have h9 := Option.some.inj x0; subst h9; refine And.intro rfl (Fit2.of (Yw hU rfl rfl ?_) (by omega)); simp only [push_cast, seval, ↓reduceIte, Zf, x1, x2, x3, x4, x5, hN0, hN]) : A := e p0 p1 p2 p3 p4 p5
theorem zX4 {A B : Prop} {P0 : Prop} (p0 : P0) {P1 : Prop} (p1 : P1) {P2 : Prop} (p2 : P2) {P3 : Prop} (p3 : P3) (b : B) (e : P0 → P1 → P2 → P3 → Hid B → A := by intro x0 x1 x2 x3 bZ; simp only [push_cast, seval, ↓reduceIte, Zf, x0, x1, x2, x3, hN0, hN]; exact bZ.get) : A := e p0 p1 p2 p3 ⟨b⟩
theorem Zor {A : Prop} {P0 : Prop} (p0 : P0) {P1 : Prop} (p1 : P1) {P2 : Prop} (p2 : P2) {P3 : Prop} (p3 : P3) {P4 : Prop} (p4 : P4) (e : P0 → P1 → P2 → P3 → P4 → A := by intro x0 x1 x2 x3 x4; have h9 := Option.some.inj x0; subst h9; refine And.intro rfl (Fit2.of (Yw hU rfl rfl ?_) (by omega)); simp only [push_cast, seval, ↓reduceIte, Zf, x1, x2, x3, x4, hN0, hN]) : A := e p0 p1 p2 p3 p4
theorem zF7 {A B : Prop} {P0 : Prop} (p0 : P0) {P1 : Prop} (p1 : P1) {P2 : Prop} (p2 : P2) {P3 : Prop} (p3 : P3) {P4 : Prop} (p4 : P4) {P5 : Prop} (p5 : P5) {P6 : Prop} (p6 : P6) (b : B) (e : P0 → P1 → P2 → P3 → P4 → P5 → P6 → Hid B → A := by intro x0 x1 x2 x3 x4 x5 x6 bZ; simp only [push_cast, Nat.reduceAdd, Nat.reduceSub, Nat.reduceMul, Nat.reduceLeDiff, Nat.reduceLT, Nat.reduceEqDiff, ↓reduceIte, reduceCtorEq, Int.reduceBEq, Int.reduceBNe, Nat.reduceBEq, Int.reduceLE, Int.reduceLT, Int.reduceEq, Int.reduceNe, Int.reduceNeg, Nat.reduceDiv, Nat.reduceMod, Nat.reducePow, Zf, x0, x1, x2, x3, x4, x5, x6, hN0, hN]; exact bZ.get) : A := e p0 p1 p2 p3 p4 p5 p6 ⟨b⟩
theorem Yer {A : Prop} {P0 : Prop} (p0 : P0) {P1 : Prop} (p1 : P1) {P2 : Prop} (p2 : P2) {P3 : Prop} (p3 : P3) {P4 : Prop} (p4 : P4) {P5 : Prop} (p5 : P5) {P6 : Prop} (p6 : P6) {P7 : Prop} (p7 : P7) (e : P0 → P1 → P2 → P3 → P4 → P5 → P6 → P7 → A := by intro x0 x1 x2 x3 x4 x5 x6 x7; have h9 := Option.some.inj x0; subst h9; refine And.intro rfl (Fit2.of (Yw hU rfl rfl ?_) (by omega)); simp only [push_cast, Nat.reduceAdd, Nat.reduceSub, Nat.reduceMul, Nat.reduceLeDiff, Nat.reduceLT, Nat.reduceEqDiff, ↓reduceIte, reduceCtorEq, Int.reduceBEq, Int.reduceBNe, Nat.reduceBEq, Int.reduceLE, Int.reduceLT, Int.reduceEq, Int.reduceNe, Int.reduceNeg, Nat.reduceDiv, Nat.reduceMod, Nat.reducePow, Zf, x1, x2, x3, x4, x5, x6, x7, hN0, hN]) : A := e p0 p1 p2 p3 p4 p5 p6 p7
theorem Ziy {A : Prop} (l0 : List G) (e : Ar l0 → A := by intro x0; have h := Option.some.inj h; subst h; refine Zvh (.inr rfl) hU x0.v (by omega) ?_; simp only [push_cast, seval, ↓reduceIte, Zf, Ar.v, hN0, hN]) : A := e ⟨⟩
theorem Zgh {A B : Prop} (l0 : List (Option Bool)) {P1 : Prop} (p1 : P1) {P2 : Prop} (p2 : P2) {P3 : Prop} (p3 : P3) (b : B) (e : Ar l0 → P1 → P2 → P3 → Hid B → A := by intro x0 x1 x2 x3 bZ; refine Ys Z0 x0.v ?_; simp only [push_cast, seval, ↓reduceIte, Zf, Ar.v, x1, x2, x3, hN0, hN]; exact bZ.get) : A := e ⟨⟩ p1 p2 p3 ⟨b⟩
theorem K6 {A B : Prop} (l0 : List (Option Bool)) {P1 : Prop} (p1 : P1) (b : B) (e : Ar l0 → P1 → Hid B → A := by intro x0 x1 bZ; refine Ys Z0 x0.v ?_; simp only [push_cast, seval, ↓reduceIte, Zf, Ar.v, x1, hN0, hN]; exact bZ.get) : A := e ⟨⟩ p1 ⟨b⟩
theorem J5 {A B : Prop} (l0 : List (Option Bool)) {P1 : Prop} (p1 : P1) {P2 : Prop} (p2 : P2) (b : B) (e : Ar l0 → P1 → P2 → Hid B → A := by intro x0 x1 x2 bZ; refine Ys Z0 x0.v ?_; simp only [push_cast, seval, ↓reduceIte, Zf, Ar.v, x1, x2, hN0, hN]; exact bZ.get) : A := e ⟨⟩ p1 p2 ⟨b⟩
theorem zX2 {A B : Prop} {P0 : Prop} (p0 : P0) {P1 : Prop} (p1 : P1) (b : B) (e : P0 → P1 → Hid B → A := by intro x0 x1 bZ; simp only [push_cast, seval, ↓reduceIte, Zf, x0, x1, hN0, hN]; exact bZ.get) : A := e p0 p1 ⟨b⟩
theorem Zc1 {A : Prop} {P0 : Prop} (p0 : P0) {P1 : Prop} (p1 : P1) {P2 : Prop} (p2 : P2) (e : P0 → P1 → P2 → A := by intro x0 x1 x2; have h9 := Option.some.inj x0; subst h9; refine And.intro rfl (Fit2.of (Yw hU rfl rfl ?_) (by omega)); simp only [push_cast, seval, ↓reduceIte, Zf, x1, x2, hN0, hN]) : A := e p0 p1 p2
theorem zRo {A B : Prop} (l0 : List (Option Bool)) (b : B) (e : Ar l0 → Hid B → A := by intro x0 bZ; refine Ys Z0 x0.v ?_; simp only [push_cast, seval, ↓reduceIte, Zf, Ar.v, hN0, hN]; exact bZ.get) : A := e ⟨⟩ ⟨b⟩
theorem zTs {A B : Prop} {P0 : Prop} (p0 : P0) (b : B) (e : P0 → Hid B → A := by intro x0 bZ; refine x0.then ?_; simp only [push_cast, seval, ↓reduceIte, Zf, hN0, hN]; exact bZ.get) : A := e p0 ⟨b⟩
theorem Z8v {A B : Prop} (l0 : List (Option Bool)) {P1 : Prop} (p1 : P1) {P2 : Prop} (p2 : P2) {P3 : Prop} (p3 : P3) {P4 : Prop} (p4 : P4) {P5 : Prop} (p5 : P5) (b : B) (e : Ar l0 → P1 → P2 → P3 → P4 → P5 → Hid B → A := by intro x0 x1 x2 x3 x4 x5 bZ; refine Ys Z0 x0.v ?_; simp only [push_cast, Nat.reduceAdd, Nat.reduceSub, Nat.reduceMul, Nat.reduceLeDiff, Nat.reduceLT, Nat.reduceEqDiff, ↓reduceIte, reduceCtorEq, Int.reduceBEq, Int.reduceBNe, Nat.reduceBEq, Int.reduceLE, Int.reduceLT, Int.reduceEq, Int.reduceNe, Int.reduceNeg, Nat.reduceDiv, Nat.reduceMod, Nat.reducePow, Zf, Ar.v, x1, x2, x3, x4, x5, hN0, hN]; exact bZ.get) : A := e ⟨⟩ p1 p2 p3 p4 p5 ⟨b⟩
theorem zF5 {A B : Prop} {P0 : Prop} (p0 : P0) {P1 : Prop} (p1 : P1) {P2 : Prop} (p2 : P2) {P3 : Prop} (p3 : P3) {P4 : Prop} (p4 : P4) (b : B) (e : P0 → P1 → P2 → P3 → P4 → Hid B → A := by intro x0 x1 x2 x3 x4 bZ; simp only [push_cast, Nat.reduceAdd, Nat.reduceSub, Nat.reduceMul, Nat.reduceLeDiff, Nat.reduceLT, Nat.reduceEqDiff, ↓reduceIte, reduceCtorEq, Int.reduceBEq, Int.reduceBNe, Nat.reduceBEq, Int.reduceLE, Int.reduceLT, Int.reduceEq, Int.reduceNe, Int.reduceNeg, Nat.reduceDiv, Nat.reduceMod, Nat.reducePow, Zf, x0, x1, x2, x3, x4, hN0, hN]; exact bZ.get) : A := e p0 p1 p2 p3 p4 ⟨b⟩
theorem Yeq {A : Prop} {P0 : Prop} (p0 : P0) {P1 : Prop} (p1 : P1) {P2 : Prop} (p2 : P2) {P3 : Prop} (p3 : P3) {P4 : Prop} (p4 : P4) {P5 : Prop} (p5 : P5) (e : P0 → P1 → P2 → P3 → P4 → P5 → A := by intro x0 x1 x2 x3 x4 x5; have h9 := Option.some.inj x0; subst h9; refine And.intro rfl (Fit2.of (Yw hU rfl rfl ?_) (by omega)); simp only [push_cast, Nat.reduceAdd, Nat.reduceSub, Nat.reduceMul, Nat.reduceLeDiff, Nat.reduceLT, Nat.reduceEqDiff, ↓reduceIte, reduceCtorEq, Int.reduceBEq, Int.reduceBNe, Nat.reduceBEq, Int.reduceLE, Int.reduceLT, Int.reduceEq, Int.reduceNe, Int.reduceNeg, Nat.reduceDiv, Nat.reduceMod, Nat.reducePow, Zf, x1, x2, x3, x4, x5, hN0, hN]) : A := e p0 p1 p2 p3 p4 p5
theorem Zzx {A B : Prop} (l0 : List (Option Bool)) {P1 : Prop} (p1 : P1) {P2 : Prop} (p2 : P2) {P3 : Prop} (p3 : P3) {P4 : Prop} (p4 : P4) (b : B) (e : Ar l0 → P1 → P2 → P3 → P4 → Hid B → A := by intro x0 x1 x2 x3 x4 bZ; refine Ys Z0 x0.v ?_; simp only [push_cast, Nat.reduceAdd, Nat.reduceSub, Nat.reduceMul, Nat.reduceLeDiff, Nat.reduceLT, Nat.reduceEqDiff, ↓reduceIte, reduceCtorEq, Int.reduceBEq, Int.reduceBNe, Nat.reduceBEq, Int.reduceLE, Int.reduceLT, Int.reduceEq, Int.reduceNe, Int.reduceNeg, Nat.reduceDiv, Nat.reduceMod, Nat.reducePow, Zf, Ar.v, x1, x2, x3, x4, hN0, hN]; exact bZ.get) : A := e ⟨⟩ p1 p2 p3 p4 ⟨b⟩
theorem Ycc {A : Prop} {P0 : Prop} (p0 : P0) {P1 : Prop} (p1 : P1) {P2 : Prop} (p2 : P2) {P3 : Prop} (p3 : P3) {P4 : Prop} (p4 : P4) (e : P0 → P1 → P2 → P3 → P4 → A := by intro x0 x1 x2 x3 x4; have h9 := Option.some.inj x0; subst h9; refine And.intro rfl (Fit2.of (Yw hU rfl rfl ?_) (by omega)); simp only [push_cast, Nat.reduceAdd, Nat.reduceSub, Nat.reduceMul, Nat.reduceLeDiff, Nat.reduceLT, Nat.reduceEqDiff, ↓reduceIte, reduceCtorEq, Int.reduceBEq, Int.reduceBNe, Nat.reduceBEq, Int.reduceLE, Int.reduceLT, Int.reduceEq, Int.reduceNe, Int.reduceNeg, Nat.reduceDiv, Nat.reduceMod, Nat.reducePow, Zf, x1, x2, x3, x4, hN0, hN]) : A := e p0 p1 p2 p3 p4
theorem Yhi {A B : Prop} (l0 : List Nat) {P1 : Prop} (p1 : P1) {P2 : Prop} (p2 : P2) {P3 : Prop} (p3 : P3) {P4 : Prop} (p4 : P4) (b : B) (e : Ar l0 → P1 → P2 → P3 → P4 → Hid B → A := by intro x0 x1 x2 x3 x4 bZ; refine Zno x0.v (Ys Z0 [] ?_); simp only [push_cast, seval, ↓reduceIte, Zf, Ar.v, x1, x2, x3, x4, hN0, hN]; exact bZ.get) : A := e ⟨⟩ p1 p2 p3 p4 ⟨b⟩
theorem zS {A B : Prop} (b : B) (e : Hid B → A := by intro bZ; simp only [push_cast, seval, ↓reduceIte, Zf, hN0, hN]; exact bZ.get) : A := e ⟨b⟩
theorem zC {A B : Prop} {P0 : Prop} (p0 : P0) (b : B) (e : P0 → Hid B → A := by intro x0 bZ; refine Ys Z0 [] ?_; simp only [push_cast, seval, ↓reduceIte, Zf, hN0, hN]; refine x0.then ?_; simp only [push_cast, seval, ↓reduceIte, Zf, hN0, hN]; exact bZ.get) : A := e p0 ⟨b⟩
theorem zK {A B : Prop} (b : B) (e : Hid B → A := by intro bZ; refine Z9w ?_; (try simp only [Y2, Ye]); exact bZ.get) : A := e ⟨b⟩
theorem zSe {A : Prop} (e : A := by simp only [push_cast, seval, ↓reduceIte, Zf, hN0, hN]) : A := e
theorem zF4 {A B : Prop} {P0 : Prop} (p0 : P0) {P1 : Prop} (p1 : P1) {P2 : Prop} (p2 : P2) {P3 : Prop} (p3 : P3) (b : B) (e : P0 → P1 → P2 → P3 → Hid B → A := by intro x0 x1 x2 x3 bZ; simp only [push_cast, Nat.reduceAdd, Nat.reduceSub, Nat.reduceMul, Nat.reduceLeDiff, Nat.reduceLT, Nat.reduceEqDiff, ↓reduceIte, reduceCtorEq, Int.reduceBEq, Int.reduceBNe, Nat.reduceBEq, Int.reduceLE, Int.reduceLT, Int.reduceEq, Int.reduceNe, Int.reduceNeg, Nat.reduceDiv, Nat.reduceMod, Nat.reducePow, Zf, x0, x1, x2, x3, hN0, hN]; exact bZ.get) : A := e p0 p1 p2 p3 ⟨b⟩
theorem X3 {A : Prop} {P0 : Prop} (p0 : P0) {P1 : Prop} (p1 : P1) (e : P0 → P1 → A := by intro x0 x1; simp only [push_cast, seval, ↓reduceIte, Zf, x0, x1, hN0, hN]) : A := e p0 p1
theorem Z9r {A : Prop} {P0 : Prop} (p0 : P0) (e : P0 → A := by intro x0; simp only [push_cast, seval, ↓reduceIte, Zf, x0, hN0, hN]) : A := e p0
theorem zXt {A B : Prop} (b : B) (e : Hid B → A := by intro bZ; refine Z9u ?_; (try simp only [Y2, Ye, ↓reduceIte, Nat.reduceEqDiff]); exact bZ.get) : A := e ⟨b⟩
theorem Zos {A B : Prop} (l0 : List (Option Bool)) {P1 : Prop} (p1 : P1) {P2 : Prop} (p2 : P2) {P3 : Prop} (p3 : P3) {P4 : Prop} (p4 : P4) (b : B) (e : Ar l0 → P1 → P2 → P3 → P4 → Hid B → A := by intro x0 x1 x2 x3 x4 bZ; refine Ys Z0 x0.v ?_; simp only [push_cast, seval, ↓reduceIte, Zf, Ar.v, x1, x2, x3, x4, hN0, hN]; exact bZ.get) : A := e ⟨⟩ p1 p2 p3 p4 ⟨b⟩
theorem Z8w {A B : Prop} (l0 : List (Option Bool)) {P1 : Prop} (p1 : P1) {P2 : Prop} (p2 : P2) {P3 : Prop} (p3 : P3) {P4 : Prop} (p4 : P4) {P5 : Prop} (p5 : P5) {P6 : Prop} (p6 : P6) (b : B) (e : Ar l0 → P1 → P2 → P3 → P4 → P5 → P6 → Hid B → A := by intro x0 x1 x2 x3 x4 x5 x6 bZ; refine Ys Z0 x0.v ?_; simp only [push_cast, seval, ↓reduceIte, Zf, Ar.v, x1, x2, x3, x4, x5, x6, hN0, hN]; exact bZ.get) : A := e ⟨⟩ p1 p2 p3 p4 p5 p6 ⟨b⟩
theorem Yet {A : Prop} {P0 : Prop} (p0 : P0) {P1 : Prop} (p1 : P1) {P2 : Prop} (p2 : P2) {P3 : Prop} (p3 : P3) {P4 : Prop} (p4 : P4) {P5 : Prop} (p5 : P5) {P6 : Prop} (p6 : P6) (e : P0 → P1 → P2 → P3 → P4 → P5 → P6 → A := by intro x0 x1 x2 x3 x4 x5 x6; have h9 := Option.some.inj x0; subst h9; refine And.intro rfl (Fit2.of (Yw hU rfl rfl ?_) (by omega)); simp only [push_cast, seval, ↓reduceIte, Zf, x1, x2, x3, x4, x5, x6, hN0, hN]) : A := e p0 p1 p2 p3 p4 p5 p6
theorem zX6 {A B : Prop} {P0 : Prop} (p0 : P0) {P1 : Prop} (p1 : P1) {P2 : Prop} (p2 : P2) {P3 : Prop} (p3 : P3) {P4 : Prop} (p4 : P4) {P5 : Prop} (p5 : P5) (b : B) (e : P0 → P1 → P2 → P3 → P4 → P5 → Hid B → A := by intro x0 x1 x2 x3 x4 x5 bZ; simp only [push_cast, seval, ↓reduceIte, Zf, x0, x1, x2, x3, x4, x5, hN0, hN]; exact bZ.get) : A := e p0 p1 p2 p3 p4 p5 ⟨b⟩
theorem Zu6 {A B : Prop} (l0 : List (Option Bool)) {P1 : Prop} (p1 : P1) {P2 : Prop} (p2 : P2) {P3 : Prop} (p3 : P3) {P4 : Prop} (p4 : P4) {P5 : Prop} (p5 : P5) (b : B) (e : Ar l0 → P1 → P2 → P3 → P4 → P5 → Hid B → A := by intro x0 x1 x2 x3 x4 x5 bZ; refine Ys Z0 x0.v ?_; simp only [push_cast, seval, ↓reduceIte, Zf, Ar.v, x1, x2, x3, x4, x5, hN0, hN]; exact bZ.get) : A := e ⟨⟩ p1 p2 p3 p4 p5 ⟨b⟩
theorem zF6 {A B : Prop} {P0 : Prop} (p0 : P0) {P1 : Prop} (p1 : P1) {P2 : Prop} (p2 : P2) {P3 : Prop} (p3 : P3) {P4 : Prop} (p4 : P4) {P5 : Prop} (p5 : P5) (b : B) (e : P0 → P1 → P2 → P3 → P4 → P5 → Hid B → A := by intro x0 x1 x2 x3 x4 x5 bZ; simp only [push_cast, Nat.reduceAdd, Nat.reduceSub, Nat.reduceMul, Nat.reduceLeDiff, Nat.reduceLT, Nat.reduceEqDiff, ↓reduceIte, reduceCtorEq, Int.reduceBEq, Int.reduceBNe, Nat.reduceBEq, Int.reduceLE, Int.reduceLT, Int.reduceEq, Int.reduceNe, Int.reduceNeg, Nat.reduceDiv, Nat.reduceMod, Nat.reducePow, Zf, x0, x1, x2, x3, x4, x5, hN0, hN]; exact bZ.get) : A := e p0 p1 p2 p3 p4 p5 ⟨b⟩
theorem Yfp {A : Prop} {P0 : Prop} (p0 : P0) {P1 : Prop} (p1 : P1) {P2 : Prop} (p2 : P2) {P3 : Prop} (p3 : P3) {P4 : Prop} (p4 : P4) (e : P0 → P1 → P2 → P3 → P4 → A := by intro x0 x1 x2 x3 x4; simp only [push_cast, seval, ↓reduceIte, Zf, x0, x1, x2, x3, x4, hN0, hN]) : A := e p0 p1 p2 p3 p4
theorem Gj {A B : Prop} (l0 : List Nat) {P1 : Prop} (p1 : P1) {P2 : Prop} (p2 : P2) (b : B) (e : Ar l0 → P1 → P2 → Hid B → A := by intro x0 x1 x2 bZ; refine Zno x0.v (Ys Z0 [] ?_); simp only [push_cast, seval, ↓reduceIte, Zf, Ar.v, x1, x2, hN0, hN]; exact bZ.get) : A := e ⟨⟩ p1 p2 ⟨b⟩
theorem Ycd {A B : Prop} (l0 : List (Option Bool)) {P1 : Prop} (p1 : P1) {P2 : Prop} (p2 : P2) {P3 : Prop} (p3 : P3) {P4 : Prop} (p4 : P4) {P5 : Prop} (p5 : P5) {P6 : Prop} (p6 : P6) (b : B) (e : Ar l0 → P1 → P2 → P3 → P4 → P5 → P6 → Hid B → A := by intro x0 x1 x2 x3 x4 x5 x6 bZ; refine Ys Z0 x0.v ?_; simp only [push_cast, Nat.reduceAdd, Nat.reduceSub, Nat.reduceMul, Nat.reduceLeDiff, Nat.reduceLT, Nat.reduceEqDiff, ↓reduceIte, reduceCtorEq, Int.reduceBEq, Int.reduceBNe, Nat.reduceBEq, Int.reduceLE, Int.reduceLT, Int.reduceEq, Int.reduceNe, Int.reduceNeg, Nat.reduceDiv, Nat.reduceMod, Nat.reducePow, Zf, Ar.v, x1, x2, x3, x4, x5, x6, hN0, hN]; exact bZ.get) : A := e ⟨⟩ p1 p2 p3 p4 p5 p6 ⟨b⟩
theorem Yd6 {A : Prop} {P0 : Prop} (p0 : P0) {P1 : Prop} (p1 : P1) {P2 : Prop} (p2 : P2) {P3 : Prop} (p3 : P3) {P4 : Prop} (p4 : P4) {P5 : Prop} (p5 : P5) (e : P0 → P1 → P2 → P3 → P4 → P5 → A := by intro x0 x1 x2 x3 x4 x5; simp only [push_cast, Nat.reduceAdd, Nat.reduceSub, Nat.reduceMul, Nat.reduceLeDiff, Nat.reduceLT, Nat.reduceEqDiff, ↓reduceIte, reduceCtorEq, Int.reduceBEq, Int.reduceBNe, Nat.reduceBEq, Int.reduceLE, Int.reduceLT, Int.reduceEq, Int.reduceNe, Int.reduceNeg, Nat.reduceDiv, Nat.reduceMod, Nat.reducePow, Zf, x0, x1, x2, x3, x4, x5, hN0, hN]) : A := e p0 p1 p2 p3 p4 p5
theorem zF9 {A B : Prop} {P0 : Prop} (p0 : P0) {P1 : Prop} (p1 : P1) {P2 : Prop} (p2 : P2) {P3 : Prop} (p3 : P3) {P4 : Prop} (p4 : P4) {P5 : Prop} (p5 : P5) {P6 : Prop} (p6 : P6) {P7 : Prop} (p7 : P7) {P8 : Prop} (p8 : P8) (b : B) (e : P0 → P1 → P2 → P3 → P4 → P5 → P6 → P7 → P8 → Hid B → A := by intro x0 x1 x2 x3 x4 x5 x6 x7 x8 bZ; simp only [push_cast, Nat.reduceAdd, Nat.reduceSub, Nat.reduceMul, Nat.reduceLeDiff, Nat.reduceLT, Nat.reduceEqDiff, ↓reduceIte, reduceCtorEq, Int.reduceBEq, Int.reduceBNe, Nat.reduceBEq, Int.reduceLE, Int.reduceLT, Int.reduceEq, Int.reduceNe, Int.reduceNeg, Nat.reduceDiv, Nat.reduceMod, Nat.reducePow, Zf, x0, x1, x2, x3, x4, x5, x6, x7, x8, hN0, hN]; exact bZ.get) : A := e p0 p1 p2 p3 p4 p5 p6 p7 p8 ⟨b⟩
theorem zO {A B : Prop} (b : B) (e : Hid B → A := by intro bZ; (repeat (with_reducible refine And.intro (by first | omega | exact Gr rfl | exact Vz | exact Z80 rfl | exact Z3z rfl rfl | exact Zx3 rfl | exact Z3y rfl) ?_)); exact bZ.get) : A := e ⟨b⟩
theorem Z3w {A : Prop} {P0 : Prop} (p0 : P0) {P1 : Prop} (p1 : P1) {P2 : Prop} (p2 : P2) {P3 : Prop} (p3 : P3) {P4 : Prop} (p4 : P4) {P5 : Prop} (p5 : P5) {P6 : Prop} (p6 : P6) {P7 : Prop} (p7 : P7) {P8 : Prop} (p8 : P8) (e : P0 → P1 → P2 → P3 → P4 → P5 → P6 → P7 → P8 → A := by intro x0 x1 x2 x3 x4 x5 x6 x7 x8; simp only [push_cast, Nat.reduceAdd, Nat.reduceSub, Nat.reduceMul, Nat.reduceLeDiff, Nat.reduceLT, Nat.reduceEqDiff, ↓reduceIte, reduceCtorEq, Int.reduceBEq, Int.reduceBNe, Nat.reduceBEq, Int.reduceLE, Int.reduceLT, Int.reduceEq, Int.reduceNe, Int.reduceNeg, Nat.reduceDiv, Nat.reduceMod, Nat.reducePow, Zf, x0, x1, x2, x3, x4, x5, x6, x7, x8, hN0, hN]) : A := e p0 p1 p2 p3 p4 p5 p6 p7 p8
theorem zEf {A : Prop} (e : A := by refine And.intro rfl (Fit2.of (Yw hU rfl rfl ?_) (by omega)); simp only [push_cast, seval, ↓reduceIte, Zf, hN0, hN]) : A := e
theorem Zzy {A : Prop} {P0 : Prop} (p0 : P0) {P1 : Prop} (p1 : P1) {P2 : Prop} (p2 : P2) (e : P0 → P1 → P2 → A := by intro x0 x1 x2; simp only [push_cast, seval, ↓reduceIte, Zf, x0, x1, x2, hN0, hN]) : A := e p0 p1 p2
theorem Yhh {A : Prop} {P0 : Prop} (p0 : P0) {P1 : Prop} (p1 : P1) {P2 : Prop} (p2 : P2) {P3 : Prop} (p3 : P3) {P4 : Prop} (p4 : P4) {P5 : Prop} (p5 : P5) {P6 : Prop} (p6 : P6) {P7 : Prop} (p7 : P7) (e : P0 → P1 → P2 → P3 → P4 → P5 → P6 → P7 → A := by intro x0 x1 x2 x3 x4 x5 x6 x7; simp only [push_cast, Nat.reduceAdd, Nat.reduceSub, Nat.reduceMul, Nat.reduceLeDiff, Nat.reduceLT, Nat.reduceEqDiff, ↓reduceIte, reduceCtorEq, Int.reduceBEq, Int.reduceBNe, Nat.reduceBEq, Int.reduceLE, Int.reduceLT, Int.reduceEq, Int.reduceNe, Int.reduceNeg, Nat.reduceDiv, Nat.reduceMod, Nat.reducePow, Zf, x0, x1, x2, x3, x4, x5, x6, x7, hN0, hN]) : A := e p0 p1 p2 p3 p4 p5 p6 p7
theorem Yix {A B : Prop} (l0 : List Nat) {P1 : Prop} (p1 : P1) (b : B) (e : Ar l0 → P1 → Hid B → A := by intro x0 x1 bZ; refine Zno x0.v (Ys Z0 [] ?_); simp only [push_cast, seval, ↓reduceIte, Zf, Ar.v, x1, hN0, hN]; exact bZ.get) : A := e ⟨⟩ p1 ⟨b⟩
theorem Yiw {A B : Prop} {P0 : Prop} (p0 : P0) {P1 : Prop} (p1 : P1) {P2 : Prop} (p2 : P2) {P3 : Prop} (p3 : P3) {P4 : Prop} (p4 : P4) {P5 : Prop} (p5 : P5) {P6 : Prop} (p6 : P6) {P7 : Prop} (p7 : P7) {P8 : Prop} (p8 : P8) {P9 : Prop} (p9 : P9) {P10 : Prop} (p10 : P10) {P11 : Prop} (p11 : P11) (b : B) (e : P0 → P1 → P2 → P3 → P4 → P5 → P6 → P7 → P8 → P9 → P10 → P11 → Hid B → A := by intro x0 x1 x2 x3 x4 x5 x6 x7 x8 x9 x10 x11 bZ; simp only [push_cast, Nat.reduceAdd, Nat.reduceSub, Nat.reduceMul, Nat.reduceLeDiff, Nat.reduceLT, Nat.reduceEqDiff, ↓reduceIte, reduceCtorEq, Int.reduceBEq, Int.reduceBNe, Nat.reduceBEq, Int.reduceLE, Int.reduceLT, Int.reduceEq, Int.reduceNe, Int.reduceNeg, Nat.reduceDiv, Nat.reduceMod, Nat.reducePow, Zf, x0, x1, x2, x3, x4, x5, x6, x7, x8, x9, x10, x11, hN0, hN]; exact bZ.get) : A := e p0 p1 p2 p3 p4 p5 p6 p7 p8 p9 p10 p11 ⟨b⟩
theorem Yhg {A : Prop} {P0 : Prop} (p0 : P0) {P1 : Prop} (p1 : P1) {P2 : Prop} (p2 : P2) {P3 : Prop} (p3 : P3) {P4 : Prop} (p4 : P4) {P5 : Prop} (p5 : P5) {P6 : Prop} (p6 : P6) {P7 : Prop} (p7 : P7) {P8 : Prop} (p8 : P8) {P9 : Prop} (p9 : P9) {P10 : Prop} (p10 : P10) {P11 : Prop} (p11 : P11) (e : P0 → P1 → P2 → P3 → P4 → P5 → P6 → P7 → P8 → P9 → P10 → P11 → A := by intro x0 x1 x2 x3 x4 x5 x6 x7 x8 x9 x10 x11; simp only [push_cast, Nat.reduceAdd, Nat.reduceSub, Nat.reduceMul, Nat.reduceLeDiff, Nat.reduceLT, Nat.reduceEqDiff, ↓reduceIte, reduceCtorEq, Int.reduceBEq, Int.reduceBNe, Nat.reduceBEq, Int.reduceLE, Int.reduceLT, Int.reduceEq, Int.reduceNe, Int.reduceNeg, Nat.reduceDiv, Nat.reduceMod, Nat.reducePow, Zf, x0, x1, x2, x3, x4, x5, x6, x7, x8, x9, x10, x11, hN0, hN]) : A := e p0 p1 p2 p3 p4 p5 p6 p7 p8 p9 p10 p11
theorem Yhj {A B : Prop} (l0 : List (Option Bool)) {P1 : Prop} (p1 : P1) {P2 : Prop} (p2 : P2) {P3 : Prop} (p3 : P3) {P4 : Prop} (p4 : P4) {P5 : Prop} (p5 : P5) {P6 : Prop} (p6 : P6) {P7 : Prop} (p7 : P7) {P8 : Prop} (p8 : P8) (b : B) (e : Ar l0 → P1 → P2 → P3 → P4 → P5 → P6 → P7 → P8 → Hid B → A := by intro x0 x1 x2 x3 x4 x5 x6 x7 x8 bZ; refine Ys Z0 x0.v ?_; simp only [push_cast, Nat.reduceAdd, Nat.reduceSub, Nat.reduceMul, Nat.reduceLeDiff, Nat.reduceLT, Nat.reduceEqDiff, ↓reduceIte, reduceCtorEq, Int.reduceBEq, Int.reduceBNe, Nat.reduceBEq, Int.reduceLE, Int.reduceLT, Int.reduceEq, Int.reduceNe, Int.reduceNeg, Nat.reduceDiv, Nat.reduceMod, Nat.reducePow, Zf, Ar.v, x1, x2, x3, x4, x5, x6, x7, x8, hN0, hN]; exact bZ.get) : A := e ⟨⟩ p1 p2 p3 p4 p5 p6 p7 p8 ⟨b⟩
theorem Yeu {A B : Prop} (l0 : List (Option Bool)) {P1 : Prop} (p1 : P1) {P2 : Prop} (p2 : P2) {P3 : Prop} (p3 : P3) {P4 : Prop} (p4 : P4) {P5 : Prop} (p5 : P5) {P6 : Prop} (p6 : P6) {P7 : Prop} (p7 : P7) (b : B) (e : Ar l0 → P1 → P2 → P3 → P4 → P5 → P6 → P7 → Hid B → A := by intro x0 x1 x2 x3 x4 x5 x6 x7 bZ; refine Ys Z0 x0.v ?_; simp only [push_cast, Nat.reduceAdd, Nat.reduceSub, Nat.reduceMul, Nat.reduceLeDiff, Nat.reduceLT, Nat.reduceEqDiff, ↓reduceIte, reduceCtorEq, Int.reduceBEq, Int.reduceBNe, Nat.reduceBEq, Int.reduceLE, Int.reduceLT, Int.reduceEq, Int.reduceNe, Int.reduceNeg, Nat.reduceDiv, Nat.reduceMod, Nat.reducePow, Zf, Ar.v, x1, x2, x3, x4, x5, x6, x7, hN0, hN]; exact bZ.get) : A := e ⟨⟩ p1 p2 p3 p4 p5 p6 p7 ⟨b⟩
theorem Yiy {A : Prop} {P0 : Prop} (p0 : P0) {P1 : Prop} (p1 : P1) {P2 : Prop} (p2 : P2) {P3 : Prop} (p3 : P3) (e : P0 → P1 → P2 → P3 → A := by intro x0 x1 x2 x3; simp only [push_cast, seval, ↓reduceIte, Zf, x0, x1, x2, x3, hN0, hN]) : A := e p0 p1 p2 p3
theorem Yhk {A B : Prop} (l0 : List (Option Bool)) {P1 : Prop} (p1 : P1) {P2 : Prop} (p2 : P2) {P3 : Prop} (p3 : P3) {P4 : Prop} (p4 : P4) {P5 : Prop} (p5 : P5) {P6 : Prop} (p6 : P6) {P7 : Prop} (p7 : P7) (b : B) (e : Ar l0 → P1 → P2 → P3 → P4 → P5 → P6 → P7 → Hid B → A := by intro x0 x1 x2 x3 x4 x5 x6 x7 bZ; refine Ys Z0 x0.v ?_; simp only [push_cast, seval, ↓reduceIte, Zf, Ar.v, x1, x2, x3, x4, x5, x6, x7, hN0, hN]; exact bZ.get) : A := e ⟨⟩ p1 p2 p3 p4 p5 p6 p7 ⟨b⟩
end Go.Proofs.Ytgpaglmhkklneaa
