/- Part VE of this seat's mirrors: functions of the seat's program, and the plain functions that they are; each theorem bears its own conditions. -/
import Derived.Test.YtbcgiaijjaocdaaTy
import Derived.Test.YtbcgiaijjaocdaaVD
namespace Go.Proofs.Ytbcgiaijjaocdaa
open Go.RowKit
set_option linter.unusedVariables false
set_option linter.unusedSimpArgs false
set_option maxRecDepth 100000
set_option maxHeartbeats 1000000
mutual
def Ui : S_api_Tree → List G
 | ⟨f0, f1, f2⟩ => [.val (.int .i64 f0), .sl f1.length (fl (eI .u64) f1), .sl f2.length (Uk f2)]
def Uk : List S_api_Tree → List G
 | [] => []
 | x :: xs => Ui x ++ Uk xs
end
theorem Zgq : ∀ xs, Uk xs = fl Ui xs
 | [] => by simp [Uk, fl]
 | x :: xs => by rw [Uk, V8, Zgq xs]
def Zb (x : S_api_Tree) : List G := [.val (.int .i64 x.Kind), .sl x.Words.length (fl (eI .u64) x.Words), .sl x.Kids.length (fl Ui x.Kids)]
theorem Yq : Ui = Zb := by
 funext x
 obtain ⟨_, _, _⟩ := x
 simp only [Ui, Zgq, Zb, List.cons_append, List.nil_append, List.append_nil]
mutual
theorem Zfo : ∀ x, G.pures (Ui x) = true
 | ⟨f0, f1, f2⟩ => by simp [Ui, eP, Vw, eI, eB, eS, eL, G.pures, G.pure, Gx, Yl, Zhe f2]
theorem Zhe : ∀ xs, G.pures (Uk xs) = true
 | [] => rfl
 | x :: xs => by simp [Uk, Gx, Zfo x, Zhe xs]
end
theorem Zfl : ∀ x, G.pures (Zb x) = true := fun x => by rw [← Yq]; exact Zfo x
theorem Kc : ∀ x, G.pures ((eI .u64) x) = true := fun x => by simp [eI, eB, eS, eL, eP, G.pures, G.pure, Yl, Vw, Yq]
theorem Zkc {O O' : Objs} {n : Nat} (xs : List Int) : Gk O O' n (fl (eI .u64) xs) (fl (eI .u64) xs) := Zdy (Yl Kc xs)
theorem Zkf {O O' : Objs} {n : Nat} (xs : List Int) (b b' : List G) : Gk O O' n (fl (eI .u64) xs ++ b) (fl (eI .u64) xs ++ b') = Gk O O' n b b' := Zco b b' _ (Yl Kc xs)
theorem Zkb (xs : List Int) : (fl (eI .u64) xs).length = xs.length * 1 := Jp (f := (eI .u64)) (k := 1) (fun _ => rfl) xs
theorem Zjo (xs : List Int) : (fl (eI .u64) xs).all G.one = true := Gg (fun x => by simp [eI, eB, eS, eL, eP, Zfc, G.one, Value.oneCell']) xs
theorem Zjx {O O' : Objs} {n : Nat} (x : Option Int) : wk O O' n (gP (eI .u64) x) (gP (eI .u64) x) = True := Zm5 Kc x
theorem Zij {k : Nat} (x : Option Int) : (gP (eI .u64) x).under k = true := Zcn Kc k x
theorem Zht {ρ : Nat → Nat} (xs : List Int) : G.rens ρ (fl (eI .u64) xs) = fl (eI .u64) xs := Kq ρ _ (Yl Kc xs)
theorem Zh2 {ρ : Nat → Nat} (x : Option Int) : (gP (eI .u64) x).ren ρ = gP (eI .u64) x := Zbz ρ _ (Vw Kc x)
theorem Zke {k : Nat} (xs : List Int) : G.unders k (fl (eI .u64) xs) = true := Xx _ _ (Yl Kc xs)
theorem Y7 : ∀ x, G.pures (Zb x) = true := fun x => by rw [← Yq]; exact Zfo x
theorem Zde {O O' : Objs} {n : Nat} (xs : List S_api_Tree) : Gk O O' n (fl Zb xs) (fl Zb xs) := Zdy (Yl Y7 xs)
theorem Zdl {O O' : Objs} {n : Nat} (xs : List S_api_Tree) (b b' : List G) : Gk O O' n (fl Zb xs ++ b) (fl Zb xs ++ b') = Gk O O' n b b' := Zco b b' _ (Yl Y7 xs)
theorem Zc9 (xs : List S_api_Tree) : (fl Zb xs).length = xs.length * 3 := Jp (f := Zb) (k := 3) (fun _ => rfl) xs
theorem Zdk (xs : List S_api_Tree) : (fl Zb xs).all G.one = true := Gg (fun x => by simp [eI, eB, eS, eL, eP, Zfc, G.one, Value.oneCell', Zb]) xs
theorem Zda {O O' : Objs} {n : Nat} (x : Option S_api_Tree) : wk O O' n (gP Zb x) (gP Zb x) = True := Zm5 Y7 x
theorem Zc0 {k : Nat} (x : Option S_api_Tree) : (gP Zb x).under k = true := Zcn Y7 k x
theorem Zcj {ρ : Nat → Nat} (xs : List S_api_Tree) : G.rens ρ (fl Zb xs) = fl Zb xs := Kq ρ _ (Yl Y7 xs)
theorem Zct {ρ : Nat → Nat} (x : Option S_api_Tree) : (gP Zb x).ren ρ = gP Zb x := Zbz ρ _ (Vw Y7 x)
theorem Zdj {k : Nat} (xs : List S_api_Tree) : G.unders k (fl Zb xs) = true := Xx _ _ (Yl Y7 xs)
def Zh (x : Zq) : List G := [.val (.int .i64 x.At), .val (.int .u8 x.Mask), .val (.int .u64 x.Old), .val (.int .u64 x.New)]
mutual
def Ji : S_api_Edit → List G
 | ⟨f0, f1, f2, f3, f4, f5, f6⟩ => [.val (.int .i64 f0), .val (.int .i64 f1.Kind), .sl f1.Words.length (fl (eI .u64) f1.Words), .sl f1.Kids.length (fl Zb f1.Kids), .val (.int .i64 f2.Kind), .sl f2.Words.length (fl (eI .u64) f2.Words), .sl f2.Kids.length (fl Zb f2.Kids), .sl f3.length (fl Zh f3), .sl f4.length (J6 f4), .val (.int .i64 f5), .sl f6.length (Zaq f6)]
def Gu : List S_api_Edit → List G
 | [] => []
 | x :: xs => Ji x ++ Gu xs
def Kh : S_api_Op → List G
 | ⟨f0, f1, f2, f3⟩ => [.val (.int .i64 f0), .val (.int .i64 f1), .sl f2.length (fl Zb f2)] ++ Ji f3
def Zaq : List S_api_Op → List G
 | [] => []
 | x :: xs => Kh x ++ Zaq xs
def Xm : S_api_KidEdit → List G
 | ⟨f0, f1⟩ => [.val (.int .i64 f0)] ++ Ji f1
def J6 : List S_api_KidEdit → List G
 | [] => []
 | x :: xs => Xm x ++ J6 xs
end
theorem Zbj : ∀ xs, Gu xs = fl Ji xs
 | [] => by simp [Gu, fl]
 | x :: xs => by rw [Gu, V8, Zbj xs]
theorem Zc2 : ∀ xs, Zaq xs = fl Kh xs
 | [] => by simp [Zaq, fl]
 | x :: xs => by rw [Zaq, V8, Zc2 xs]
theorem Uo : ∀ xs, J6 xs = fl Xm xs
 | [] => by simp [J6, fl]
 | x :: xs => by rw [J6, V8, Uo xs]
def Qb (x : S_api_Edit) : List G := [.val (.int .i64 x.Kind), .val (.int .i64 x.Old.Kind), .sl x.Old.Words.length (fl (eI .u64) x.Old.Words), .sl x.Old.Kids.length (fl Zb x.Old.Kids), .val (.int .i64 x.New.Kind), .sl x.New.Words.length (fl (eI .u64) x.New.Words), .sl x.New.Kids.length (fl Zb x.New.Kids), .sl x.Words.length (fl Zh x.Words), .sl x.Kids.length (fl Xm x.Kids), .val (.int .i64 x.List_), .sl x.Ops.length (fl Kh x.Ops)]
def Zf (x : S_api_Op) : List G := [.val (.int .i64 x.Kind), .val (.int .i64 x.N), .sl x.L.length (fl Zb x.L), .val (.int .i64 x.E.Kind), .val (.int .i64 x.E.Old.Kind), .sl x.E.Old.Words.length (fl (eI .u64) x.E.Old.Words), .sl x.E.Old.Kids.length (fl Zb x.E.Old.Kids), .val (.int .i64 x.E.New.Kind), .sl x.E.New.Words.length (fl (eI .u64) x.E.New.Words), .sl x.E.New.Kids.length (fl Zb x.E.New.Kids), .sl x.E.Words.length (fl Zh x.E.Words), .sl x.E.Kids.length (fl Xm x.E.Kids), .val (.int .i64 x.E.List_), .sl x.E.Ops.length (fl Kh x.E.Ops)]
def Zk (x : S_api_KidEdit) : List G := [.val (.int .i64 x.At), .val (.int .i64 x.E.Kind), .val (.int .i64 x.E.Old.Kind), .sl x.E.Old.Words.length (fl (eI .u64) x.E.Old.Words), .sl x.E.Old.Kids.length (fl Zb x.E.Old.Kids), .val (.int .i64 x.E.New.Kind), .sl x.E.New.Words.length (fl (eI .u64) x.E.New.Words), .sl x.E.New.Kids.length (fl Zb x.E.New.Kids), .sl x.E.Words.length (fl Zh x.E.Words), .sl x.E.Kids.length (fl Xm x.E.Kids), .val (.int .i64 x.E.List_), .sl x.E.Ops.length (fl Kh x.E.Ops)]
theorem Xo : Ji = Qb := by
 funext x
 obtain ⟨_, _, _, _, _, _, _⟩ := x
 simp only [Ji, Zbj, Kh, Zc2, Xm, Uo, Qb, List.cons_append, List.nil_append, List.append_nil]
theorem X1 : Kh = Zf := by
 funext x
 obtain ⟨_, _, _, ⟨_, _, _, _, _, _, _⟩⟩ := x
 simp only [Ji, Zbj, Kh, Zc2, Xm, Uo, Zf, List.cons_append, List.nil_append, List.append_nil]
theorem Y4 : Xm = Zk := by
 funext x
 obtain ⟨_, ⟨_, _, _, _, _, _, _⟩⟩ := x
 simp only [Ji, Zbj, Kh, Zc2, Xm, Uo, Zk, List.cons_append, List.nil_append, List.append_nil]
mutual
theorem Zfm : ∀ x, G.pures (Ji x) = true
 | ⟨f0, f1, f2, f3, f4, f5, f6⟩ => by simp [Ji, eP, Vw, eI, eB, eS, eL, G.pures, G.pure, Gx, Yl, Ze5 f4, Zjh f6, Kc, Y7, Zfl, Zh]
theorem Znb : ∀ xs, G.pures (Gu xs) = true
 | [] => rfl
 | x :: xs => by simp [Gu, Gx, Zfm x, Znb xs]
theorem Zln : ∀ x, G.pures (Kh x) = true
 | ⟨f0, f1, f2, f3⟩ => by simp [Kh, eP, Vw, eI, eB, eS, eL, G.pures, G.pure, Gx, Yl, Zfm f3, Kc, Y7, Zfl, Zh]
theorem Zjh : ∀ xs, G.pures (Zaq xs) = true
 | [] => rfl
 | x :: xs => by simp [Zaq, Gx, Zln x, Zjh xs]
theorem Zfw : ∀ x, G.pures (Xm x) = true
 | ⟨f0, f1⟩ => by simp [Xm, eP, Vw, eI, eB, eS, eL, G.pures, G.pure, Gx, Yl, Zfm f1, Kc, Y7, Zfl, Zh]
theorem Ze5 : ∀ xs, G.pures (J6 xs) = true
 | [] => rfl
 | x :: xs => by simp [J6, Gx, Zfw x, Ze5 xs]
end
theorem Y9 : ∀ x, G.pures (Zh x) = true := fun x => by simp [eI, eB, eS, eL, eP, G.pures, G.pure, Yl, Vw, Zh, Kc, Y7, Yq, Xo, X1, Y4]
theorem Za4 {O O' : Objs} {n : Nat} (xs : List Zq) : Gk O O' n (fl Zh xs) (fl Zh xs) := Zdy (Yl Y9 xs)
theorem Za2 {O O' : Objs} {n : Nat} (xs : List Zq) (b b' : List G) : Gk O O' n (fl Zh xs ++ b) (fl Zh xs ++ b') = Gk O O' n b b' := Zco b b' _ (Yl Y9 xs)
theorem Zax (xs : List Zq) : (fl Zh xs).length = xs.length * 4 := Jp (f := Zh) (k := 4) (fun _ => rfl) xs
theorem Zbe (xs : List Zq) : (fl Zh xs).all G.one = true := Gg (fun x => by simp [eI, eB, eS, eL, eP, Zfc, G.one, Value.oneCell', Zh]) xs
theorem Zas {O O' : Objs} {n : Nat} (x : Option Zq) : wk O O' n (gP Zh x) (gP Zh x) = True := Zm5 Y9 x
theorem Zad {k : Nat} (x : Option Zq) : (gP Zh x).under k = true := Zcn Y9 k x
theorem Gz {ρ : Nat → Nat} (xs : List Zq) : G.rens ρ (fl Zh xs) = fl Zh xs := Kq ρ _ (Yl Y9 xs)
theorem Zae {ρ : Nat → Nat} (x : Option Zq) : (gP Zh x).ren ρ = gP Zh x := Zbz ρ _ (Vw Y9 x)
theorem Zbd {k : Nat} (xs : List Zq) : G.unders k (fl Zh xs) = true := Xx _ _ (Yl Y9 xs)
theorem Xj : ∀ x, G.pures (Zk x) = true := fun x => by rw [← Y4]; exact Zfw x
theorem Zbq {O O' : Objs} {n : Nat} (xs : List S_api_KidEdit) : Gk O O' n (fl Zk xs) (fl Zk xs) := Zdy (Yl Xj xs)
theorem Zbo {O O' : Objs} {n : Nat} (xs : List S_api_KidEdit) (b b' : List G) : Gk O O' n (fl Zk xs ++ b) (fl Zk xs ++ b') = Gk O O' n b b' := Zco b b' _ (Yl Xj xs)
theorem Zbp (xs : List S_api_KidEdit) : (fl Zk xs).length = xs.length * 12 := Jp (f := Zk) (k := 12) (fun _ => rfl) xs
theorem Zbl (xs : List S_api_KidEdit) : (fl Zk xs).all G.one = true := Gg (fun x => by simp [eI, eB, eS, eL, eP, Zfc, G.one, Value.oneCell', Zk]) xs
theorem Zbn {O O' : Objs} {n : Nat} (x : Option S_api_KidEdit) : wk O O' n (gP Zk x) (gP Zk x) = True := Zm5 Xj x
theorem Zay {k : Nat} (x : Option S_api_KidEdit) : (gP Zk x).under k = true := Zcn Xj k x
theorem Zao {ρ : Nat → Nat} (xs : List S_api_KidEdit) : G.rens ρ (fl Zk xs) = fl Zk xs := Kq ρ _ (Yl Xj xs)
theorem Zaw {ρ : Nat → Nat} (x : Option S_api_KidEdit) : (gP Zk x).ren ρ = gP Zk x := Zbz ρ _ (Vw Xj x)
theorem Zbm {k : Nat} (xs : List S_api_KidEdit) : G.unders k (fl Zk xs) = true := Xx _ _ (Yl Xj xs)
theorem Jh : ∀ x, G.pures (Zf x) = true := fun x => by rw [← X1]; exact Zln x
theorem Zfh {O O' : Objs} {n : Nat} (xs : List S_api_Op) : Gk O O' n (fl Zf xs) (fl Zf xs) := Zdy (Yl Jh xs)
theorem Zfd {O O' : Objs} {n : Nat} (xs : List S_api_Op) (b b' : List G) : Gk O O' n (fl Zf xs ++ b) (fl Zf xs ++ b') = Gk O O' n b b' := Zco b b' _ (Yl Jh xs)
theorem Ze7 (xs : List S_api_Op) : (fl Zf xs).length = xs.length * 14 := Jp (f := Zf) (k := 14) (fun _ => rfl) xs
theorem Ze9 (xs : List S_api_Op) : (fl Zf xs).all G.one = true := Gg (fun x => by simp [eI, eB, eS, eL, eP, Zfc, G.one, Value.oneCell', Zf]) xs
theorem Zfb {O O' : Objs} {n : Nat} (x : Option S_api_Op) : wk O O' n (gP Zf x) (gP Zf x) = True := Zm5 Jh x
theorem Zef {k : Nat} (x : Option S_api_Op) : (gP Zf x).under k = true := Zcn Jh k x
theorem Zec {ρ : Nat → Nat} (xs : List S_api_Op) : G.rens ρ (fl Zf xs) = fl Zf xs := Kq ρ _ (Yl Jh xs)
theorem Zed {ρ : Nat → Nat} (x : Option S_api_Op) : (gP Zf x).ren ρ = gP Zf x := Zbz ρ _ (Vw Jh x)
theorem Zew {k : Nat} (xs : List S_api_Op) : G.unders k (fl Zf xs) = true := Xx _ _ (Yl Jh xs)
theorem Zcy : ∀ x, G.pures ((eI .u8) x) = true := fun x => by simp [eI, eB, eS, eL, eP, G.pures, G.pure, Yl, Vw, Kc, Y7, Y9, Xj, Jh, Yq, Xo, X1, Y4]
theorem Zl9 {O O' : Objs} {n : Nat} (xs : List Int) : Gk O O' n (fl (eI .u8) xs) (fl (eI .u8) xs) := Zdy (Yl Zcy xs)
theorem Zms {O O' : Objs} {n : Nat} (xs : List Int) (b b' : List G) : Gk O O' n (fl (eI .u8) xs ++ b) (fl (eI .u8) xs ++ b') = Gk O O' n b b' := Zco b b' _ (Yl Zcy xs)
theorem Zl7 (xs : List Int) : (fl (eI .u8) xs).length = xs.length * 1 := Jp (f := (eI .u8)) (k := 1) (fun _ => rfl) xs
theorem Zl4 (xs : List Int) : (fl (eI .u8) xs).all G.one = true := Gg (fun x => by simp [eI, eB, eS, eL, eP, Zfc, G.one, Value.oneCell']) xs
theorem Zma {O O' : Objs} {n : Nat} (x : Option Int) : wk O O' n (gP (eI .u8) x) (gP (eI .u8) x) = True := Zm5 Zcy x
theorem Zj6 {k : Nat} (x : Option Int) : (gP (eI .u8) x).under k = true := Zcn Zcy k x
theorem Zkg {ρ : Nat → Nat} (xs : List Int) : G.rens ρ (fl (eI .u8) xs) = fl (eI .u8) xs := Kq ρ _ (Yl Zcy xs)
theorem Zkk {ρ : Nat → Nat} (x : Option Int) : (gP (eI .u8) x).ren ρ = gP (eI .u8) x := Zbz ρ _ (Vw Zcy x)
theorem Zl0 {k : Nat} (xs : List Int) : G.unders k (fl (eI .u8) xs) = true := Xx _ _ (Yl Zcy xs)
def Ya (x : Zr) : List G := [.sl x.out.length (fl Zf x.out), .val (.int .i64 x.kept), .sl x.gone.length (fl Zb x.gone), .sl x.come.length (fl Zb x.come)]
theorem Xr : ∀ x, G.pures (Ya x) = true := fun x => by simp [eI, eB, eS, eL, eP, G.pures, G.pure, Yl, Vw, Ya, Kc, Y7, Y9, Xj, Jh, Zcy, Yq, Xo, X1, Y4]
theorem Zaa {O O' : Objs} {n : Nat} (xs : List Zr) : Gk O O' n (fl Ya xs) (fl Ya xs) := Zdy (Yl Xr xs)
theorem Zai {O O' : Objs} {n : Nat} (xs : List Zr) (b b' : List G) : Gk O O' n (fl Ya xs ++ b) (fl Ya xs ++ b') = Gk O O' n b b' := Zco b b' _ (Yl Xr xs)
theorem Gy (xs : List Zr) : (fl Ya xs).length = xs.length * 4 := Jp (f := Ya) (k := 4) (fun _ => rfl) xs
theorem Zaf (xs : List Zr) : (fl Ya xs).all G.one = true := Gg (fun x => by simp [eI, eB, eS, eL, eP, Zfc, G.one, Value.oneCell', Ya]) xs
theorem Zab {O O' : Objs} {n : Nat} (x : Option Zr) : wk O O' n (gP Ya x) (gP Ya x) = True := Zm5 Xr x
theorem Gb {k : Nat} (x : Option Zr) : (gP Ya x).under k = true := Zcn Xr k x
theorem U6 {ρ : Nat → Nat} (xs : List Zr) : G.rens ρ (fl Ya xs) = fl Ya xs := Kq ρ _ (Yl Xr xs)
theorem Gh {ρ : Nat → Nat} (x : Option Zr) : (gP Ya x).ren ρ = gP Ya x := Zbz ρ _ (Vw Xr x)
theorem Zaj {k : Nat} (xs : List Zr) : G.unders k (fl Ya xs) = true := Xx _ _ (Yl Xr xs)
def Yd (x : Zi) : List G := [.sl x.left.length (fl Zb x.left), .sl x.out.length (fl Zb x.out)]
theorem Ql : ∀ x, G.pures (Yd x) = true := fun x => by simp [eI, eB, eS, eL, eP, G.pures, G.pure, Yl, Vw, Yd, Kc, Y7, Y9, Xj, Jh, Zcy, Xr, Yq, Xo, X1, Y4]
theorem Zap {O O' : Objs} {n : Nat} (xs : List Zi) : Gk O O' n (fl Yd xs) (fl Yd xs) := Zdy (Yl Ql xs)
theorem Za1 {O O' : Objs} {n : Nat} (xs : List Zi) (b b' : List G) : Gk O O' n (fl Yd xs ++ b) (fl Yd xs ++ b') = Gk O O' n b b' := Zco b b' _ (Yl Ql xs)
theorem Za5 (xs : List Zi) : (fl Yd xs).length = xs.length * 2 := Jp (f := Yd) (k := 2) (fun _ => rfl) xs
theorem Za8 (xs : List Zi) : (fl Yd xs).all G.one = true := Gg (fun x => by simp [eI, eB, eS, eL, eP, Zfc, G.one, Value.oneCell', Yd]) xs
theorem Zba {O O' : Objs} {n : Nat} (x : Option Zi) : wk O O' n (gP Yd x) (gP Yd x) = True := Zm5 Ql x
theorem G0 {k : Nat} (x : Option Zi) : (gP Yd x).under k = true := Zcn Ql k x
theorem Zag {ρ : Nat → Nat} (xs : List Zi) : G.rens ρ (fl Yd xs) = fl Yd xs := Kq ρ _ (Yl Ql xs)
theorem Zac {ρ : Nat → Nat} (x : Option Zi) : (gP Yd x).ren ρ = gP Yd x := Zbz ρ _ (Vw Ql x)
theorem Za9 {k : Nat} (xs : List Zi) : G.unders k (fl Yd xs) = true := Xx _ _ (Yl Ql xs)
def Yo (x : S_api_Op) : List G := [.val (.int .i64 x.Kind), .val (.int .i64 x.N), .sl x.L.length (fl Zb x.L), .val (.int .i64 x.E.Kind), .val (.int .i64 x.E.Old.Kind), .sl x.E.Old.Words.length (fl (eI .u64) x.E.Old.Words), .sl x.E.Old.Kids.length (fl Zb x.E.Old.Kids), .val (.int .i64 x.E.New.Kind), .sl x.E.New.Words.length (fl (eI .u64) x.E.New.Words), .sl x.E.New.Kids.length (fl Zb x.E.New.Kids), .sl x.E.Words.length (fl Zh x.E.Words), .sl x.E.Kids.length (fl Zk x.E.Kids), .val (.int .i64 x.E.List_), .sl x.E.Ops.length (fl Zf x.E.Ops)]
def Zb1 (x : S_api_KidEdit) : List G := [.val (.int .i64 x.At), .val (.int .i64 x.E.Kind), .val (.int .i64 x.E.Old.Kind), .sl x.E.Old.Words.length (fl (eI .u64) x.E.Old.Words), .sl x.E.Old.Kids.length (fl Zb x.E.Old.Kids), .val (.int .i64 x.E.New.Kind), .sl x.E.New.Words.length (fl (eI .u64) x.E.New.Words), .sl x.E.New.Kids.length (fl Zb x.E.New.Kids), .sl x.E.Words.length (fl Zh x.E.Words), .sl x.E.Kids.length (fl Zk x.E.Kids), .val (.int .i64 x.E.List_), .sl x.E.Ops.length (fl Zf x.E.Ops)]
def Zg (x : S_api_Edit) : List G := [.val (.int .i64 x.Kind), .val (.int .i64 x.Old.Kind), .sl x.Old.Words.length (fl (eI .u64) x.Old.Words), .sl x.Old.Kids.length (fl Zb x.Old.Kids), .val (.int .i64 x.New.Kind), .sl x.New.Words.length (fl (eI .u64) x.New.Words), .sl x.New.Kids.length (fl Zb x.New.Kids), .sl x.Words.length (fl Zh x.Words), .sl x.Kids.length (fl Zk x.Kids), .val (.int .i64 x.List_), .sl x.Ops.length (fl Zf x.Ops)]
def Ze (x : S_api_Tree) : List G := [.val (.int .i64 x.Kind), .sl x.Words.length (fl (eI .u64) x.Words), .sl x.Kids.length (fl Zb x.Kids)]
def Uw (x : Zq) : List G := [.val (.int .i64 x.At), .val (.int .u8 x.Mask), .val (.int .u64 x.Old), .val (.int .u64 x.New)]
end Go.Proofs.Ytbcgiaijjaocdaa
