/- Part NE of this seat's mirrors: functions of the seat's program, and the plain functions that they are; each theorem bears its own conditions. -/
import Derived.Test.YtgpaglmhkklneaaGreatTy
import Derived.Test.YtgpaglmhkklneaaGreatND
namespace Go.Proofs.YtgpaglmhkklneaaGreat
open Go.RowKit
set_option linter.unusedVariables false
set_option linter.unusedSimpArgs false
set_option maxRecDepth 100000
set_option maxHeartbeats 4000000
mutual
def Gi : Zb → List G
 | ⟨f0, f1, f2⟩ => [.val (.int .i64 f0), .sl f1.length (fl (eI .u64) f1), .sl f2.length (Gj f2)]
def Gj : List Zb → List G
 | [] => []
 | x :: xs => Gi x ++ Gj xs
end
theorem Zjl : ∀ xs, Gj xs = fl Gi xs
 | [] => by simp [Gj, fl]
 | x :: xs => by rw [Gj, U8, Zjl xs]
def Za (x : Zb) : List G := [.val (.int .i64 x.Kind), .sl x.Words.length (fl (eI .u64) x.Words), .sl x.Kids.length (fl Gi x.Kids)]
theorem Yh : Gi = Za := by
 funext x
 obtain ⟨_, _, _⟩ := x
 simp only [Gi, Zjl, Za, List.cons_append, List.nil_append, List.append_nil]
mutual
theorem Zia : ∀ x, G.pures (Gi x) = true
 | ⟨f0, f1, f2⟩ => by simp [Gi, eP, Q8, eI, eB, eS, eL, G.pures, G.pure, Zbl, Z5, Zkv f2]
theorem Zkv : ∀ xs, G.pures (Gj xs) = true
 | [] => rfl
 | x :: xs => by simp [Gj, Zbl, Zia x, Zkv xs]
end
theorem Zib : ∀ x, G.pures (Za x) = true := fun x => by rw [← Yh]; exact Zia x
theorem Ja : ∀ x, G.pures ((eI .u64) x) = true := fun x => by simp [eI, eB, eS, eL, eP, G.pures, G.pure, Z5, Q8, Yh]
theorem Zny {O O' : Objs} {n : Nat} (xs : List Int) : Uz O O' n (fl (eI .u64) xs) (fl (eI .u64) xs) := Gh (Z5 Ja xs)
theorem Znw {O O' : Objs} {n : Nat} (xs : List Int) (b b' : List G) : Uz O O' n (fl (eI .u64) xs ++ b) (fl (eI .u64) xs ++ b') = Uz O O' n b b' := Uw b b' _ (Z5 Ja xs)
theorem Zna (xs : List Int) : (fl (eI .u64) xs).length = xs.length * 1 := Qr (f := (eI .u64)) (k := 1) (fun _ => rfl) xs
theorem Znh (xs : List Int) : (fl (eI .u64) xs).all G.one = true := J6 (fun x => by simp [eI, eB, eS, eL, eP, Zbr, G.one, Value.oneCell']) xs
theorem Zn0 {O O' : Objs} {n : Nat} (x : Option Int) : wk O O' n (gP (eI .u64) x) (gP (eI .u64) x) = True := Zi5 Ja x
theorem Zlx {k : Nat} (x : Option Int) : (gP (eI .u64) x).under k = true := Uv Ja k x
theorem Zls {ρ : Nat → Nat} (xs : List Int) : G.rens ρ (fl (eI .u64) xs) = fl (eI .u64) xs := Jb ρ _ (Z5 Ja xs)
theorem Zlq {ρ : Nat → Nat} (x : Option Int) : (gP (eI .u64) x).ren ρ = gP (eI .u64) x := V8 ρ _ (Q8 Ja x)
theorem Znu {k : Nat} (xs : List Int) : G.unders k (fl (eI .u64) xs) = true := Xr _ _ (Z5 Ja xs)
theorem Y4 : ∀ x, G.pures (Za x) = true := fun x => by rw [← Yh]; exact Zia x
theorem Zgj {O O' : Objs} {n : Nat} (xs : List Zb) : Uz O O' n (fl Za xs) (fl Za xs) := Gh (Z5 Y4 xs)
theorem Zgh {O O' : Objs} {n : Nat} (xs : List Zb) (b b' : List G) : Uz O O' n (fl Za xs ++ b) (fl Za xs ++ b') = Uz O O' n b b' := Uw b b' _ (Z5 Y4 xs)
theorem Zf5 (xs : List Zb) : (fl Za xs).length = xs.length * 3 := Qr (f := Za) (k := 3) (fun _ => rfl) xs
theorem Zgb (xs : List Zb) : (fl Za xs).all G.one = true := J6 (fun x => by simp [eI, eB, eS, eL, eP, Zbr, G.one, Value.oneCell', Za]) xs
theorem Zgl {O O' : Objs} {n : Nat} (x : Option Zb) : wk O O' n (gP Za x) (gP Za x) = True := Zi5 Y4 x
theorem Zfx {k : Nat} (x : Option Zb) : (gP Za x).under k = true := Uv Y4 k x
theorem Zfs {ρ : Nat → Nat} (xs : List Zb) : G.rens ρ (fl Za xs) = fl Za xs := Jb ρ _ (Z5 Y4 xs)
theorem Zfq {ρ : Nat → Nat} (x : Option Zb) : (gP Za x).ren ρ = gP Za x := V8 ρ _ (Q8 Y4 x)
theorem Zge {k : Nat} (xs : List Zb) : G.unders k (fl Za xs) = true := Xr _ _ (Z5 Y4 xs)
def Zg (x : Zs) : List G := [.val (.int .i64 x.At), .val (.int .u8 x.Mask), .val (.int .u64 x.Old), .val (.int .u64 x.New)]
mutual
def Km : Zc → List G
 | ⟨f0, f1, f2, f3, f4, f5, f6⟩ => [.val (.int .i64 f0), .val (.int .i64 f1.Kind), .sl f1.Words.length (fl (eI .u64) f1.Words), .sl f1.Kids.length (fl Za f1.Kids), .val (.int .i64 f2.Kind), .sl f2.Words.length (fl (eI .u64) f2.Words), .sl f2.Kids.length (fl Za f2.Kids), .sl f3.length (fl Zg f3), .sl f4.length (K6 f4), .val (.int .i64 f5), .sl f6.length (Zcd f6)]
def Zbk : List Zc → List G
 | [] => []
 | x :: xs => Km x ++ Zbk xs
def Qk : Zp → List G
 | ⟨f0, f1⟩ => [.val (.int .i64 f0)] ++ Km f1
def K6 : List Zp → List G
 | [] => []
 | x :: xs => Qk x ++ K6 xs
def Vg : Zj → List G
 | ⟨f0, f1, f2, f3⟩ => [.val (.int .i64 f0), .val (.int .i64 f1), .sl f2.length (fl Za f2)] ++ Km f3
def Zcd : List Zj → List G
 | [] => []
 | x :: xs => Vg x ++ Zcd xs
end
theorem Zdr : ∀ xs, Zbk xs = fl Km xs
 | [] => by simp [Zbk, fl]
 | x :: xs => by rw [Zbk, U8, Zdr xs]
theorem Gw : ∀ xs, K6 xs = fl Qk xs
 | [] => by simp [K6, fl]
 | x :: xs => by rw [K6, U8, Gw xs]
theorem Zfe : ∀ xs, Zcd xs = fl Vg xs
 | [] => by simp [Zcd, fl]
 | x :: xs => by rw [Zcd, U8, Zfe xs]
def Ze (x : Zc) : List G := [.val (.int .i64 x.Kind), .val (.int .i64 x.Old.Kind), .sl x.Old.Words.length (fl (eI .u64) x.Old.Words), .sl x.Old.Kids.length (fl Za x.Old.Kids), .val (.int .i64 x.New.Kind), .sl x.New.Words.length (fl (eI .u64) x.New.Words), .sl x.New.Kids.length (fl Za x.New.Kids), .sl x.Words.length (fl Zg x.Words), .sl x.Kids.length (fl Qk x.Kids), .val (.int .i64 x.List_), .sl x.Ops.length (fl Vg x.Ops)]
def Zi (x : Zp) : List G := [.val (.int .i64 x.At), .val (.int .i64 x.E.Kind), .val (.int .i64 x.E.Old.Kind), .sl x.E.Old.Words.length (fl (eI .u64) x.E.Old.Words), .sl x.E.Old.Kids.length (fl Za x.E.Old.Kids), .val (.int .i64 x.E.New.Kind), .sl x.E.New.Words.length (fl (eI .u64) x.E.New.Words), .sl x.E.New.Kids.length (fl Za x.E.New.Kids), .sl x.E.Words.length (fl Zg x.E.Words), .sl x.E.Kids.length (fl Qk x.E.Kids), .val (.int .i64 x.E.List_), .sl x.E.Ops.length (fl Vg x.E.Ops)]
def Zf (x : Zj) : List G := [.val (.int .i64 x.Kind), .val (.int .i64 x.N), .sl x.L.length (fl Za x.L), .val (.int .i64 x.E.Kind), .val (.int .i64 x.E.Old.Kind), .sl x.E.Old.Words.length (fl (eI .u64) x.E.Old.Words), .sl x.E.Old.Kids.length (fl Za x.E.Old.Kids), .val (.int .i64 x.E.New.Kind), .sl x.E.New.Words.length (fl (eI .u64) x.E.New.Words), .sl x.E.New.Kids.length (fl Za x.E.New.Kids), .sl x.E.Words.length (fl Zg x.E.Words), .sl x.E.Kids.length (fl Qk x.E.Kids), .val (.int .i64 x.E.List_), .sl x.E.Ops.length (fl Vg x.E.Ops)]
theorem Y3 : Km = Ze := by
 funext x
 obtain ⟨_, _, _, _, _, _, _⟩ := x
 simp only [Km, Zdr, Qk, Gw, Vg, Zfe, Ze, List.cons_append, List.nil_append, List.append_nil]
theorem Yk : Qk = Zi := by
 funext x
 obtain ⟨_, ⟨_, _, _, _, _, _, _⟩⟩ := x
 simp only [Km, Zdr, Qk, Gw, Vg, Zfe, Zi, List.cons_append, List.nil_append, List.append_nil]
theorem Xc : Vg = Zf := by
 funext x
 obtain ⟨_, _, _, ⟨_, _, _, _, _, _, _⟩⟩ := x
 simp only [Km, Zdr, Qk, Gw, Vg, Zfe, Zf, List.cons_append, List.nil_append, List.append_nil]
mutual
theorem Zfn : ∀ x, G.pures (Km x) = true
 | ⟨f0, f1, f2, f3, f4, f5, f6⟩ => by simp [Km, eP, Q8, eI, eB, eS, eL, G.pures, G.pure, Zbl, Z5, Zic f4, Zmo f6, Ja, Y4, Zib, Zg]
theorem Zq6 : ∀ xs, G.pures (Zbk xs) = true
 | [] => rfl
 | x :: xs => by simp [Zbk, Zbl, Zfn x, Zq6 xs]
theorem Zi1 : ∀ x, G.pures (Qk x) = true
 | ⟨f0, f1⟩ => by simp [Qk, eP, Q8, eI, eB, eS, eL, G.pures, G.pure, Zbl, Z5, Zfn f1, Ja, Y4, Zib, Zg]
theorem Zic : ∀ xs, G.pures (K6 xs) = true
 | [] => rfl
 | x :: xs => by simp [K6, Zbl, Zi1 x, Zic xs]
theorem Zot : ∀ x, G.pures (Vg x) = true
 | ⟨f0, f1, f2, f3⟩ => by simp [Vg, eP, Q8, eI, eB, eS, eL, G.pures, G.pure, Zbl, Z5, Zfn f3, Ja, Y4, Zib, Zg]
theorem Zmo : ∀ xs, G.pures (Zcd xs) = true
 | [] => rfl
 | x :: xs => by simp [Zcd, Zbl, Zot x, Zmo xs]
end
theorem Yy : ∀ x, G.pures (Zg x) = true := fun x => by simp [eI, eB, eS, eL, eP, G.pures, G.pure, Z5, Q8, Zg, Ja, Y4, Yh, Y3, Yk, Xc]
theorem Zdf {O O' : Objs} {n : Nat} (xs : List Zs) : Uz O O' n (fl Zg xs) (fl Zg xs) := Gh (Z5 Yy xs)
theorem Zdb {O O' : Objs} {n : Nat} (xs : List Zs) (b b' : List G) : Uz O O' n (fl Zg xs ++ b) (fl Zg xs ++ b') = Uz O O' n b b' := Uw b b' _ (Z5 Yy xs)
theorem Zch (xs : List Zs) : (fl Zg xs).length = xs.length * 4 := Qr (f := Zg) (k := 4) (fun _ => rfl) xs
theorem Zcs (xs : List Zs) : (fl Zg xs).all G.one = true := J6 (fun x => by simp [eI, eB, eS, eL, eP, Zbr, G.one, Value.oneCell', Zg]) xs
theorem Zdk {O O' : Objs} {n : Nat} (x : Option Zs) : wk O O' n (gP Zg x) (gP Zg x) = True := Zi5 Yy x
theorem Zb2 {k : Nat} (x : Option Zs) : (gP Zg x).under k = true := Uv Yy k x
theorem Zbx {ρ : Nat → Nat} (xs : List Zs) : G.rens ρ (fl Zg xs) = fl Zg xs := Jb ρ _ (Z5 Yy xs)
theorem Zbt {ρ : Nat → Nat} (x : Option Zs) : (gP Zg x).ren ρ = gP Zg x := V8 ρ _ (Q8 Yy x)
theorem Zc4 {k : Nat} (xs : List Zs) : G.unders k (fl Zg xs) = true := Xr _ _ (Z5 Yy xs)
theorem Y8 : ∀ x, G.pures (Zi x) = true := fun x => by rw [← Yk]; exact Zi1 x
theorem Zed {O O' : Objs} {n : Nat} (xs : List Zp) : Uz O O' n (fl Zi xs) (fl Zi xs) := Gh (Z5 Y8 xs)
theorem Zea {O O' : Objs} {n : Nat} (xs : List Zp) (b b' : List G) : Uz O O' n (fl Zi xs ++ b) (fl Zi xs ++ b') = Uz O O' n b b' := Uw b b' _ (Z5 Y8 xs)
theorem Zd1 (xs : List Zp) : (fl Zi xs).length = xs.length * 12 := Qr (f := Zi) (k := 12) (fun _ => rfl) xs
theorem Zd4 (xs : List Zp) : (fl Zi xs).all G.one = true := J6 (fun x => by simp [eI, eB, eS, eL, eP, Zbr, G.one, Value.oneCell', Zi]) xs
theorem Zeg {O O' : Objs} {n : Nat} (x : Option Zp) : wk O O' n (gP Zi x) (gP Zi x) = True := Zi5 Y8 x
theorem Zc8 {k : Nat} (x : Option Zp) : (gP Zi x).under k = true := Uv Y8 k x
theorem Zc0 {ρ : Nat → Nat} (xs : List Zp) : G.rens ρ (fl Zi xs) = fl Zi xs := Jb ρ _ (Z5 Y8 xs)
theorem Zcx {ρ : Nat → Nat} (x : Option Zp) : (gP Zi x).ren ρ = gP Zi x := V8 ρ _ (Q8 Y8 x)
theorem Zd7 {k : Nat} (xs : List Zp) : G.unders k (fl Zi xs) = true := Xr _ _ (Z5 Y8 xs)
theorem Qe : ∀ x, G.pures (Zf x) = true := fun x => by rw [← Xc]; exact Zot x
theorem Zim {O O' : Objs} {n : Nat} (xs : List Zj) : Uz O O' n (fl Zf xs) (fl Zf xs) := Gh (Z5 Qe xs)
theorem Zil {O O' : Objs} {n : Nat} (xs : List Zj) (b b' : List G) : Uz O O' n (fl Zf xs ++ b) (fl Zf xs ++ b') = Uz O O' n b b' := Uw b b' _ (Z5 Qe xs)
theorem Zh0 (xs : List Zj) : (fl Zf xs).length = xs.length * 14 := Qr (f := Zf) (k := 14) (fun _ => rfl) xs
theorem Zh7 (xs : List Zj) : (fl Zf xs).all G.one = true := J6 (fun x => by simp [eI, eB, eS, eL, eP, Zbr, G.one, Value.oneCell', Zf]) xs
theorem Zin {O O' : Objs} {n : Nat} (x : Option Zj) : wk O O' n (gP Zf x) (gP Zf x) = True := Zi5 Qe x
theorem Zhg {k : Nat} (x : Option Zj) : (gP Zf x).under k = true := Uv Qe k x
theorem Zhc {ρ : Nat → Nat} (xs : List Zj) : G.rens ρ (fl Zf xs) = fl Zf xs := Jb ρ _ (Z5 Qe xs)
theorem Zhb {ρ : Nat → Nat} (x : Option Zj) : (gP Zf x).ren ρ = gP Zf x := V8 ρ _ (Q8 Qe x)
theorem Zik {k : Nat} (xs : List Zj) : G.unders k (fl Zf xs) = true := Xr _ _ (Z5 Qe xs)
theorem Vw : ∀ x, G.pures ((eI .i64) x) = true := fun x => by simp [eI, eB, eS, eL, eP, G.pures, G.pure, Z5, Q8, Ja, Y4, Yy, Y8, Qe, Yh, Y3, Yk, Xc]
theorem Znx {O O' : Objs} {n : Nat} (xs : List Int) : Uz O O' n (fl (eI .i64) xs) (fl (eI .i64) xs) := Gh (Z5 Vw xs)
theorem Znv {O O' : Objs} {n : Nat} (xs : List Int) (b b' : List G) : Uz O O' n (fl (eI .i64) xs ++ b) (fl (eI .i64) xs ++ b') = Uz O O' n b b' := Uw b b' _ (Z5 Vw xs)
theorem Zm9 (xs : List Int) : (fl (eI .i64) xs).length = xs.length * 1 := Qr (f := (eI .i64)) (k := 1) (fun _ => rfl) xs
theorem Zng (xs : List Int) : (fl (eI .i64) xs).all G.one = true := J6 (fun x => by simp [eI, eB, eS, eL, eP, Zbr, G.one, Value.oneCell']) xs
theorem Znz {O O' : Objs} {n : Nat} (x : Option Int) : wk O O' n (gP (eI .i64) x) (gP (eI .i64) x) = True := Zi5 Vw x
theorem Zlw {k : Nat} (x : Option Int) : (gP (eI .i64) x).under k = true := Uv Vw k x
theorem Zlr {ρ : Nat → Nat} (xs : List Int) : G.rens ρ (fl (eI .i64) xs) = fl (eI .i64) xs := Jb ρ _ (Z5 Vw xs)
theorem Zlp {ρ : Nat → Nat} (x : Option Int) : (gP (eI .i64) x).ren ρ = gP (eI .i64) x := V8 ρ _ (Q8 Vw x)
theorem Znt {k : Nat} (xs : List Int) : G.unders k (fl (eI .i64) xs) = true := Xr _ _ (Z5 Vw xs)
def Ye (x : Zn) : List G := [.val (.int .i64 x.now.Kind), .sl x.now.Words.length (fl (eI .u64) x.now.Words), .sl x.now.Kids.length (fl Za x.now.Kids), .sl x.done.length (fl Ze x.done), .sl x.back.length (fl Ze x.back)]
theorem Xy : ∀ x, G.pures (Ze x) = true := fun x => by rw [← Y3]; exact Zfn x
theorem Zgi {O O' : Objs} {n : Nat} (xs : List Zc) : Uz O O' n (fl Ze xs) (fl Ze xs) := Gh (Z5 Xy xs)
theorem Zgg {O O' : Objs} {n : Nat} (xs : List Zc) (b b' : List G) : Uz O O' n (fl Ze xs ++ b) (fl Ze xs ++ b') = Uz O O' n b b' := Uw b b' _ (Z5 Xy xs)
theorem Zf4 (xs : List Zc) : (fl Ze xs).length = xs.length * 11 := Qr (f := Ze) (k := 11) (fun _ => rfl) xs
theorem Zga (xs : List Zc) : (fl Ze xs).all G.one = true := J6 (fun x => by simp [eI, eB, eS, eL, eP, Zbr, G.one, Value.oneCell', Ze]) xs
theorem Zgk {O O' : Objs} {n : Nat} (x : Option Zc) : wk O O' n (gP Ze x) (gP Ze x) = True := Zi5 Xy x
theorem Zfw {k : Nat} (x : Option Zc) : (gP Ze x).under k = true := Uv Xy k x
theorem Zfr {ρ : Nat → Nat} (xs : List Zc) : G.rens ρ (fl Ze xs) = fl Ze xs := Jb ρ _ (Z5 Xy xs)
theorem Zfp {ρ : Nat → Nat} (x : Option Zc) : (gP Ze x).ren ρ = gP Ze x := V8 ρ _ (Q8 Xy x)
theorem Zgd {k : Nat} (xs : List Zc) : G.unders k (fl Ze xs) = true := Xr _ _ (Z5 Xy xs)
def Yv (x : Zh) : List G := [.sl x.left.length (fl Za x.left), .sl x.out.length (fl Za x.out)]
theorem Xe : ∀ x, G.pures (Yv x) = true := fun x => by simp [eI, eB, eS, eL, eP, G.pures, G.pure, Z5, Q8, Yv, Ja, Y4, Yy, Y8, Qe, Vw, Xy, Yh, Y3, Yk, Xc]
theorem Zdg {O O' : Objs} {n : Nat} (xs : List Zh) : Uz O O' n (fl Yv xs) (fl Yv xs) := Gh (Z5 Xe xs)
theorem Zdc {O O' : Objs} {n : Nat} (xs : List Zh) (b b' : List G) : Uz O O' n (fl Yv xs ++ b) (fl Yv xs ++ b') = Uz O O' n b b' := Uw b b' _ (Z5 Xe xs)
theorem Zci (xs : List Zh) : (fl Yv xs).length = xs.length * 2 := Qr (f := Yv) (k := 2) (fun _ => rfl) xs
theorem Zct (xs : List Zh) : (fl Yv xs).all G.one = true := J6 (fun x => by simp [eI, eB, eS, eL, eP, Zbr, G.one, Value.oneCell', Yv]) xs
theorem Zdl {O O' : Objs} {n : Nat} (x : Option Zh) : wk O O' n (gP Yv x) (gP Yv x) = True := Zi5 Xe x
theorem Zb3 {k : Nat} (x : Option Zh) : (gP Yv x).under k = true := Uv Xe k x
theorem Zby {ρ : Nat → Nat} (xs : List Zh) : G.rens ρ (fl Yv xs) = fl Yv xs := Jb ρ _ (Z5 Xe xs)
theorem Zbu {ρ : Nat → Nat} (x : Option Zh) : (gP Yv x).ren ρ = gP Yv x := V8 ρ _ (Q8 Xe x)
theorem Zc5 {k : Nat} (xs : List Zh) : G.unders k (fl Yv xs) = true := Xr _ _ (Z5 Xe xs)
def Yn (x : Zt) : List G := [.sl x.out.length (fl Zf x.out), .val (.int .i64 x.kept), .sl x.gone.length (fl Za x.gone), .sl x.come.length (fl Za x.come)]
theorem Xj : ∀ x, G.pures (Yn x) = true := fun x => by simp [eI, eB, eS, eL, eP, G.pures, G.pure, Z5, Q8, Yn, Ja, Y4, Yy, Y8, Qe, Vw, Xy, Xe, Yh, Y3, Yk, Xc]
theorem Zb6 {O O' : Objs} {n : Nat} (xs : List Zt) : Uz O O' n (fl Yn xs) (fl Yn xs) := Gh (Z5 Xj xs)
theorem Zb5 {O O' : Objs} {n : Nat} (xs : List Zt) (b b' : List G) : Uz O O' n (fl Yn xs ++ b) (fl Yn xs ++ b') = Uz O O' n b b' := Uw b b' _ (Z5 Xj xs)
theorem Zbo (xs : List Zt) : (fl Yn xs).length = xs.length * 4 := Qr (f := Yn) (k := 4) (fun _ => rfl) xs
theorem Zbq (xs : List Zt) : (fl Yn xs).all G.one = true := J6 (fun x => by simp [eI, eB, eS, eL, eP, Zbr, G.one, Value.oneCell', Yn]) xs
theorem Zb7 {O O' : Objs} {n : Nat} (x : Option Zt) : wk O O' n (gP Yn x) (gP Yn x) = True := Zi5 Xj x
theorem Za4 {k : Nat} (x : Option Zt) : (gP Yn x).under k = true := Uv Xj k x
theorem Za3 {ρ : Nat → Nat} (xs : List Zt) : G.rens ρ (fl Yn xs) = fl Yn xs := Jb ρ _ (Z5 Xj xs)
theorem Za2 {ρ : Nat → Nat} (x : Option Zt) : (gP Yn x).ren ρ = gP Yn x := V8 ρ _ (Q8 Xj x)
theorem Zb0 {k : Nat} (xs : List Zt) : G.unders k (fl Yn xs) = true := Xr _ _ (Z5 Xj xs)
theorem Xd : ∀ x, G.pures (Ye x) = true := fun x => by simp [eI, eB, eS, eL, eP, G.pures, G.pure, Z5, Q8, Ye, Ja, Y4, Yy, Y8, Qe, Vw, Xy, Xe, Xj, Yh, Y3, Yk, Xc]
theorem Zal {O O' : Objs} {n : Nat} (xs : List Zn) : Uz O O' n (fl Ye xs) (fl Ye xs) := Gh (Z5 Xd xs)
theorem Zak {O O' : Objs} {n : Nat} (xs : List Zn) (b b' : List G) : Uz O O' n (fl Ye xs ++ b) (fl Ye xs ++ b') = Uz O O' n b b' := Uw b b' _ (Z5 Xd xs)
theorem Zab (xs : List Zn) : (fl Ye xs).length = xs.length * 5 := Qr (f := Ye) (k := 5) (fun _ => rfl) xs
theorem Zag (xs : List Zn) : (fl Ye xs).all G.one = true := J6 (fun x => by simp [eI, eB, eS, eL, eP, Zbr, G.one, Value.oneCell', Ye]) xs
theorem Zam {O O' : Objs} {n : Nat} (x : Option Zn) : wk O O' n (gP Ye x) (gP Ye x) = True := Zi5 Xd x
theorem Gr {k : Nat} (x : Option Zn) : (gP Ye x).under k = true := Uv Xd k x
theorem Gq {ρ : Nat → Nat} (xs : List Zn) : G.rens ρ (fl Ye xs) = fl Ye xs := Jb ρ _ (Z5 Xd xs)
theorem Gp {ρ : Nat → Nat} (x : Option Zn) : (gP Ye x).ren ρ = gP Ye x := V8 ρ _ (Q8 Xd x)
theorem Zai {k : Nat} (xs : List Zn) : G.unders k (fl Ye xs) = true := Xr _ _ (Z5 Xd xs)
def Yu (x : Ju) : List G := [.sl x.left.length (fl Zf x.left), .val (.int .i64 x.gone)]
theorem X8 : ∀ x, G.pures (Yu x) = true := fun x => by simp [eI, eB, eS, eL, eP, G.pures, G.pure, Z5, Q8, Yu, Ja, Y4, Yy, Y8, Qe, Vw, Xy, Xe, Xj, Xd, Yh, Y3, Yk, Xc]
theorem Zde {O O' : Objs} {n : Nat} (xs : List Ju) : Uz O O' n (fl Yu xs) (fl Yu xs) := Gh (Z5 X8 xs)
theorem Zda {O O' : Objs} {n : Nat} (xs : List Ju) (b b' : List G) : Uz O O' n (fl Yu xs ++ b) (fl Yu xs ++ b') = Uz O O' n b b' := Uw b b' _ (Z5 X8 xs)
theorem Zcg (xs : List Ju) : (fl Yu xs).length = xs.length * 2 := Qr (f := Yu) (k := 2) (fun _ => rfl) xs
theorem Zcr (xs : List Ju) : (fl Yu xs).all G.one = true := J6 (fun x => by simp [eI, eB, eS, eL, eP, Zbr, G.one, Value.oneCell', Yu]) xs
theorem Zdj {O O' : Objs} {n : Nat} (x : Option Ju) : wk O O' n (gP Yu x) (gP Yu x) = True := Zi5 X8 x
theorem Zb1 {k : Nat} (x : Option Ju) : (gP Yu x).under k = true := Uv X8 k x
theorem Zbw {ρ : Nat → Nat} (xs : List Ju) : G.rens ρ (fl Yu xs) = fl Yu xs := Jb ρ _ (Z5 X8 xs)
theorem Zbs {ρ : Nat → Nat} (x : Option Ju) : (gP Yu x).ren ρ = gP Yu x := V8 ρ _ (Q8 X8 x)
theorem Zc3 {k : Nat} (xs : List Ju) : G.unders k (fl Yu xs) = true := Xr _ _ (Z5 X8 xs)
def Y1 (x : Jt) : List G := [.val (.int .i64 x.Of), .val (.int .i64 x.P.Kind), .val (.int .i64 x.P.N), .sl x.P.L.length (fl Za x.P.L), .val (.int .i64 x.P.E.Kind), .val (.int .i64 x.P.E.Old.Kind), .sl x.P.E.Old.Words.length (fl (eI .u64) x.P.E.Old.Words), .sl x.P.E.Old.Kids.length (fl Za x.P.E.Old.Kids), .val (.int .i64 x.P.E.New.Kind), .sl x.P.E.New.Words.length (fl (eI .u64) x.P.E.New.Words), .sl x.P.E.New.Kids.length (fl Za x.P.E.New.Kids), .sl x.P.E.Words.length (fl Zg x.P.E.Words), .sl x.P.E.Kids.length (fl Zi x.P.E.Kids), .val (.int .i64 x.P.E.List_), .sl x.P.E.Ops.length (fl Zf x.P.E.Ops), .val (.int .i64 x.Q.Kind), .val (.int .i64 x.Q.N), .sl x.Q.L.length (fl Za x.Q.L), .val (.int .i64 x.Q.E.Kind), .val (.int .i64 x.Q.E.Old.Kind), .sl x.Q.E.Old.Words.length (fl (eI .u64) x.Q.E.Old.Words), .sl x.Q.E.Old.Kids.length (fl Za x.Q.E.Old.Kids), .val (.int .i64 x.Q.E.New.Kind), .sl x.Q.E.New.Words.length (fl (eI .u64) x.Q.E.New.Words), .sl x.Q.E.New.Kids.length (fl Za x.Q.E.New.Kids), .sl x.Q.E.Words.length (fl Zg x.Q.E.Words), .sl x.Q.E.Kids.length (fl Zi x.Q.E.Kids), .val (.int .i64 x.Q.E.List_), .sl x.Q.E.Ops.length (fl Zf x.Q.E.Ops)]
theorem Qv : ∀ x, G.pures (Y1 x) = true := fun x => by simp [eI, eB, eS, eL, eP, G.pures, G.pure, Z5, Q8, Y1, Ja, Y4, Yy, Y8, Qe, Vw, Xy, Xe, Xj, Xd, X8, Yh, Y3, Yk, Xc]
theorem Zec {O O' : Objs} {n : Nat} (xs : List Jt) : Uz O O' n (fl Y1 xs) (fl Y1 xs) := Gh (Z5 Qv xs)
theorem Zd9 {O O' : Objs} {n : Nat} (xs : List Jt) (b b' : List G) : Uz O O' n (fl Y1 xs ++ b) (fl Y1 xs ++ b') = Uz O O' n b b' := Uw b b' _ (Z5 Qv xs)
theorem Zd0 (xs : List Jt) : (fl Y1 xs).length = xs.length * 29 := Qr (f := Y1) (k := 29) (fun _ => rfl) xs
theorem Zd3 (xs : List Jt) : (fl Y1 xs).all G.one = true := J6 (fun x => by simp [eI, eB, eS, eL, eP, Zbr, G.one, Value.oneCell', Y1]) xs
theorem Zef {O O' : Objs} {n : Nat} (x : Option Jt) : wk O O' n (gP Y1 x) (gP Y1 x) = True := Zi5 Qv x
theorem Zc7 {k : Nat} (x : Option Jt) : (gP Y1 x).under k = true := Uv Qv k x
theorem Zcz {ρ : Nat → Nat} (xs : List Jt) : G.rens ρ (fl Y1 xs) = fl Y1 xs := Jb ρ _ (Z5 Qv xs)
theorem Zcw {ρ : Nat → Nat} (x : Option Jt) : (gP Y1 x).ren ρ = gP Y1 x := V8 ρ _ (Q8 Qv x)
theorem Zd6 {k : Nat} (xs : List Jt) : G.unders k (fl Y1 xs) = true := Xr _ _ (Z5 Qv xs)
def Yp (x : Jc) : List G := [.val (.bool x.apart), .val (.bool x.clash)]
theorem Q1 : ∀ x, G.pures (Yp x) = true := fun x => by simp [eI, eB, eS, eL, eP, G.pures, G.pure, Z5, Q8, Yp, Ja, Y4, Yy, Y8, Qe, Vw, Xy, Xe, Xj, Xd, X8, Qv, Yh, Y3, Yk, Xc]
theorem Zdh {O O' : Objs} {n : Nat} (xs : List Jc) : Uz O O' n (fl Yp xs) (fl Yp xs) := Gh (Z5 Q1 xs)
theorem Zdd {O O' : Objs} {n : Nat} (xs : List Jc) (b b' : List G) : Uz O O' n (fl Yp xs ++ b) (fl Yp xs ++ b') = Uz O O' n b b' := Uw b b' _ (Z5 Q1 xs)
theorem Zcj (xs : List Jc) : (fl Yp xs).length = xs.length * 2 := Qr (f := Yp) (k := 2) (fun _ => rfl) xs
theorem Zcu (xs : List Jc) : (fl Yp xs).all G.one = true := J6 (fun x => by simp [eI, eB, eS, eL, eP, Zbr, G.one, Value.oneCell', Yp]) xs
theorem Zdm {O O' : Objs} {n : Nat} (x : Option Jc) : wk O O' n (gP Yp x) (gP Yp x) = True := Zi5 Q1 x
theorem Zb4 {k : Nat} (x : Option Jc) : (gP Yp x).under k = true := Uv Q1 k x
theorem Zbz {ρ : Nat → Nat} (xs : List Jc) : G.rens ρ (fl Yp xs) = fl Yp xs := Jb ρ _ (Z5 Q1 xs)
theorem Zbv {ρ : Nat → Nat} (x : Option Jc) : (gP Yp x).ren ρ = gP Yp x := V8 ρ _ (Q8 Q1 x)
theorem Zc6 {k : Nat} (xs : List Jc) : G.unders k (fl Yp xs) = true := Xr _ _ (Z5 Q1 xs)
def Yx (x : Kl) : List G := [(gP Yp x.mover), .val (.int .i64 x.left.Kind), .val (.int .i64 x.left.Old.Kind), .sl x.left.Old.Words.length (fl (eI .u64) x.left.Old.Words), .sl x.left.Old.Kids.length (fl Za x.left.Old.Kids), .val (.int .i64 x.left.New.Kind), .sl x.left.New.Words.length (fl (eI .u64) x.left.New.Words), .sl x.left.New.Kids.length (fl Za x.left.New.Kids), .sl x.left.Words.length (fl Zg x.left.Words), .sl x.left.Kids.length (fl Zi x.left.Kids), .val (.int .i64 x.left.List_), .sl x.left.Ops.length (fl Zf x.left.Ops), .sl x.come.length (fl Za x.come)]
theorem J9 : ∀ x, G.pures (Yx x) = true := fun x => by simp [eI, eB, eS, eL, eP, G.pures, G.pure, Z5, Q8, Yx, Ja, Y4, Yy, Y8, Qe, Vw, Xy, Xe, Xj, Xd, X8, Qv, Q1, Yh, Y3, Yk, Xc]
theorem Zee {O O' : Objs} {n : Nat} (xs : List Kl) : Uz O O' n (fl Yx xs) (fl Yx xs) := Gh (Z5 J9 xs)
theorem Zeb {O O' : Objs} {n : Nat} (xs : List Kl) (b b' : List G) : Uz O O' n (fl Yx xs ++ b) (fl Yx xs ++ b') = Uz O O' n b b' := Uw b b' _ (Z5 J9 xs)
theorem Zd2 (xs : List Kl) : (fl Yx xs).length = xs.length * 13 := Qr (f := Yx) (k := 13) (fun _ => rfl) xs
theorem Zd5 (xs : List Kl) : (fl Yx xs).all G.one = true := J6 (fun x => by first | (simp [eI, eB, eS, eL, eP, Zbr, G.one, Value.oneCell', Yx]; done) | (simp only [List.all_cons, List.all_nil, Zbr, Bool.true_and, Bool.and_true, Yx] <;> rfl)) xs
theorem Zeh {O O' : Objs} {n : Nat} (x : Option Kl) : wk O O' n (gP Yx x) (gP Yx x) = True := Zi5 J9 x
theorem Zc9 {k : Nat} (x : Option Kl) : (gP Yx x).under k = true := Uv J9 k x
theorem Zc1 {ρ : Nat → Nat} (xs : List Kl) : G.rens ρ (fl Yx xs) = fl Yx xs := Jb ρ _ (Z5 J9 xs)
theorem Zcy {ρ : Nat → Nat} (x : Option Kl) : (gP Yx x).ren ρ = gP Yx x := V8 ρ _ (Q8 J9 x)
theorem Zd8 {k : Nat} (xs : List Kl) : G.unders k (fl Yx xs) = true := Xr _ _ (Z5 J9 xs)
def X5 (x : Q3) : List G := [.val (.int .i64 x.Kind), .val (.int .i64 x.I), .val (.int .i64 x.E.Kind), .val (.int .i64 x.E.Old.Kind), .sl x.E.Old.Words.length (fl (eI .u64) x.E.Old.Words), .sl x.E.Old.Kids.length (fl Za x.E.Old.Kids), .val (.int .i64 x.E.New.Kind), .sl x.E.New.Words.length (fl (eI .u64) x.E.New.Words), .sl x.E.New.Kids.length (fl Za x.E.New.Kids), .sl x.E.Words.length (fl Zg x.E.Words), .sl x.E.Kids.length (fl Zi x.E.Kids), .val (.int .i64 x.E.List_), .sl x.E.Ops.length (fl Zf x.E.Ops)]
def Zg5 (x : Jt) : List G := [.val (.int .i64 x.Of), .val (.int .i64 x.P.Kind), .val (.int .i64 x.P.N), .sl x.P.L.length (fl Za x.P.L), .val (.int .i64 x.P.E.Kind), .val (.int .i64 x.P.E.Old.Kind), .sl x.P.E.Old.Words.length (fl (eI .u64) x.P.E.Old.Words), .sl x.P.E.Old.Kids.length (fl Za x.P.E.Old.Kids), .val (.int .i64 x.P.E.New.Kind), .sl x.P.E.New.Words.length (fl (eI .u64) x.P.E.New.Words), .sl x.P.E.New.Kids.length (fl Za x.P.E.New.Kids), .sl x.P.E.Words.length (fl Zg x.P.E.Words), .sl x.P.E.Kids.length (fl Zi x.P.E.Kids), .val (.int .i64 x.P.E.List_), .sl x.P.E.Ops.length (fl Zf x.P.E.Ops), .val (.int .i64 x.Q.Kind), .val (.int .i64 x.Q.N), .sl x.Q.L.length (fl Za x.Q.L), .val (.int .i64 x.Q.E.Kind), .val (.int .i64 x.Q.E.Old.Kind), .sl x.Q.E.Old.Words.length (fl (eI .u64) x.Q.E.Old.Words), .sl x.Q.E.Old.Kids.length (fl Za x.Q.E.Old.Kids), .val (.int .i64 x.Q.E.New.Kind), .sl x.Q.E.New.Words.length (fl (eI .u64) x.Q.E.New.Words), .sl x.Q.E.New.Kids.length (fl Za x.Q.E.New.Kids), .sl x.Q.E.Words.length (fl Zg x.Q.E.Words), .sl x.Q.E.Kids.length (fl Zi x.Q.E.Kids), .val (.int .i64 x.Q.E.List_), .sl x.Q.E.Ops.length (fl Zf x.Q.E.Ops)]
def Xk (x : Zj) : List G := [.val (.int .i64 x.Kind), .val (.int .i64 x.N), .sl x.L.length (fl Za x.L), .val (.int .i64 x.E.Kind), .val (.int .i64 x.E.Old.Kind), .sl x.E.Old.Words.length (fl (eI .u64) x.E.Old.Words), .sl x.E.Old.Kids.length (fl Za x.E.Old.Kids), .val (.int .i64 x.E.New.Kind), .sl x.E.New.Words.length (fl (eI .u64) x.E.New.Words), .sl x.E.New.Kids.length (fl Za x.E.New.Kids), .sl x.E.Words.length (fl Zg x.E.Words), .sl x.E.Kids.length (fl Zi x.E.Kids), .val (.int .i64 x.E.List_), .sl x.E.Ops.length (fl Zf x.E.Ops)]
def V6 (x : Q3) : List G := [.val (.int .i64 x.Kind), .val (.int .i64 x.I), .val (.int .i64 x.E.Kind), .val (.int .i64 x.E.Old.Kind), .sl x.E.Old.Words.length (fl (eI .u64) x.E.Old.Words), .sl x.E.Old.Kids.length (fl Za x.E.Old.Kids), .val (.int .i64 x.E.New.Kind), .sl x.E.New.Words.length (fl (eI .u64) x.E.New.Words), .sl x.E.New.Kids.length (fl Za x.E.New.Kids), .sl x.E.Words.length (fl Zg x.E.Words), .sl x.E.Kids.length (fl Zi x.E.Kids), .val (.int .i64 x.E.List_), .sl x.E.Ops.length (fl Zf x.E.Ops)]
def Zer (x : Zp) : List G := [.val (.int .i64 x.At), .val (.int .i64 x.E.Kind), .val (.int .i64 x.E.Old.Kind), .sl x.E.Old.Words.length (fl (eI .u64) x.E.Old.Words), .sl x.E.Old.Kids.length (fl Za x.E.Old.Kids), .val (.int .i64 x.E.New.Kind), .sl x.E.New.Words.length (fl (eI .u64) x.E.New.Words), .sl x.E.New.Kids.length (fl Za x.E.New.Kids), .sl x.E.Words.length (fl Zg x.E.Words), .sl x.E.Kids.length (fl Zi x.E.Kids), .val (.int .i64 x.E.List_), .sl x.E.Ops.length (fl Zf x.E.Ops)]
def Zk (x : Zc) : List G := [.val (.int .i64 x.Kind), .val (.int .i64 x.Old.Kind), .sl x.Old.Words.length (fl (eI .u64) x.Old.Words), .sl x.Old.Kids.length (fl Za x.Old.Kids), .val (.int .i64 x.New.Kind), .sl x.New.Words.length (fl (eI .u64) x.New.Words), .sl x.New.Kids.length (fl Za x.New.Kids), .sl x.Words.length (fl Zg x.Words), .sl x.Kids.length (fl Zi x.Kids), .val (.int .i64 x.List_), .sl x.Ops.length (fl Zf x.Ops)]
def Zl (x : Zb) : List G := [.val (.int .i64 x.Kind), .sl x.Words.length (fl (eI .u64) x.Words), .sl x.Kids.length (fl Za x.Kids)]
def Zdp (x : Zs) : List G := [.val (.int .i64 x.At), .val (.int .u8 x.Mask), .val (.int .u64 x.Old), .val (.int .u64 x.New)]
abbrev vI (x : Int) : G := .val (.int .i64 x)
abbrev vB (x : Bool) : G := .val (.bool x)
abbrev nV : G := .val (.slice none 0 0)
abbrev sL {α : Type} (e : α → List G) (x : List α) : G := .sl x.length (fl e x)
abbrev oR {α : Type} (t s : Nat) (e : α → List G) (x : List α) : GObj := ⟨true, t, s, x.length, fl e x⟩
structure Hid (p : Prop) : Prop where
 get : p
structure Ar {α : Type} (a : α) : Prop where
def Ar.v {α : Type} {a : α} (_ : Ar a) : α := a
theorem zQ {A B : Prop} (l0 : List Nat) (b : B) (e : Ar l0 → Hid B → A := by intro x0 bZ; refine Zn2 x0.v (Y2 Zu [] ?_); simp only [push_cast, seval, ↓reduceIte, Zd, Ar.v, hN0, hN]; exact bZ.get) : A := e ⟨⟩ ⟨b⟩
theorem zQD {A B : Prop} (l0 : List Nat) (l1 : List (Option Bool)) (b : B) (e : Ar l0 → Ar l1 → Hid B → A := by intro x0 x1 bZ; refine Zn2 x0.v (Y2 Zu x1.v ?_); simp only [push_cast, seval, ↓reduceIte, Zd, Ar.v, hN0, hN]; (repeat (with_reducible refine And.intro (by first | (intro h0; simp only [h0, and_self]; done) | (intro h0; simp only [h0, Bool.not_false, Bool.not_true, Bool.true_and, Bool.and_true, true_and, and_true, and_self, imp_self, implies_true, bne_iff_ne, ne_eq, beq_iff_eq]; done) | (intros; simp_all; done) | exact True.intro) ?_)); exact bZ.get) : A := e ⟨⟩ ⟨⟩ ⟨b⟩
theorem zW {A B : Prop} (b : B) (e : Hid B → A := by intro bZ; refine Ybm ?_; (try simp only [Qg, Xm]); exact bZ.get) : A := e ⟨b⟩
theorem Gu {A B : Prop} (l0 : List Nat) (l1 : List Bool) (b : B) (e : Ar l0 → Ar l1 → Hid B → A := by intro x0 x1 bZ; refine Z5d ?_; (try simp only [Qg, Xm]); refine Zpd x0.v x1.v ?_; simp only [push_cast, seval, ↓reduceIte, Ar.v]; exact bZ.get) : A := e ⟨⟩ ⟨⟩ ⟨b⟩
theorem zQd {A B : Prop} (l0 : List Nat) (l1 : List Nat) (l2 : List Bool) (b : B) (e : Ar l0 → Ar l1 → Ar l2 → Hid B → A := by intro x0 x1 x2 bZ; refine Zn2 x0.v (Y2 Zu [] ?_); simp only [push_cast, seval, ↓reduceIte, Zd, Ar.v, hN0, hN]; refine Zpd x1.v x2.v ?_; simp only [push_cast, seval, ↓reduceIte, Ar.v]; exact bZ.get) : A := e ⟨⟩ ⟨⟩ ⟨⟩ ⟨b⟩
theorem Ze4 {A B : Prop} (l0 : List (Option Bool)) {P1 : Prop} (p1 : P1) {P2 : Prop} (p2 : P2) {P3 : Prop} (p3 : P3) (b : B) (e : Ar l0 → P1 → P2 → P3 → Hid B → A := by intro x0 x1 x2 x3 bZ; refine Y2 Zu x0.v ?_; simp only [push_cast, Nat.reduceAdd, Nat.reduceSub, Nat.reduceMul, Nat.reduceLeDiff, Nat.reduceLT, Nat.reduceEqDiff, ↓reduceIte, reduceCtorEq, Int.reduceBEq, Int.reduceBNe, Nat.reduceBEq, Int.reduceLE, Int.reduceLT, Int.reduceEq, Int.reduceNe, Int.reduceNeg, Nat.reduceDiv, Nat.reduceMod, Nat.reducePow, Zd, Ar.v, x1, x2, x3, hN0, hN]; exact bZ.get) : A := e ⟨⟩ p1 p2 p3 ⟨b⟩
theorem zF3 {A B : Prop} {P0 : Prop} (p0 : P0) {P1 : Prop} (p1 : P1) {P2 : Prop} (p2 : P2) (b : B) (e : P0 → P1 → P2 → Hid B → A := by intro x0 x1 x2 bZ; simp only [push_cast, Nat.reduceAdd, Nat.reduceSub, Nat.reduceMul, Nat.reduceLeDiff, Nat.reduceLT, Nat.reduceEqDiff, ↓reduceIte, reduceCtorEq, Int.reduceBEq, Int.reduceBNe, Nat.reduceBEq, Int.reduceLE, Int.reduceLT, Int.reduceEq, Int.reduceNe, Int.reduceNeg, Nat.reduceDiv, Nat.reduceMod, Nat.reducePow, Zd, x0, x1, x2, hN0, hN]; exact bZ.get) : A := e p0 p1 p2 ⟨b⟩
theorem zD {A B : Prop} (l0 : List Nat) (l1 : List Bool) (b : B) (e : Ar l0 → Ar l1 → Hid B → A := by intro x0 x1 bZ; refine Zpd x0.v x1.v ?_; simp only [push_cast, seval, ↓reduceIte, Ar.v]; exact bZ.get) : A := e ⟨⟩ ⟨⟩ ⟨b⟩
theorem zR {A B : Prop} (b : B) (e : Hid B → A := by intro bZ; refine Y2 Zu [] ?_; simp only [push_cast, seval, ↓reduceIte, Zd, hN0, hN]; exact bZ.get) : A := e ⟨b⟩
theorem zEn {A : Prop} {P0 : Prop} (p0 : P0) (e : P0 → A := by intro x0; have h9 := Option.some.inj x0; subst h9; refine And.intro rfl (Fit2.of (Xi hU rfl rfl ?_) (by omega)); simp only [push_cast, seval, ↓reduceIte, Zd, hN0, hN]) : A := e p0
theorem zEx {A : Prop} {P0 : Prop} (p0 : P0) (e : P0 → A := by intro x0; refine Z5b ?_; (try simp only [Qg, Xm, ↓reduceIte, Nat.reduceEqDiff]); have h9 := Option.some.inj x0; subst h9; refine And.intro (fun h => by cases h) (And.intro rfl (Fit2.of (Xi hU rfl rfl ?_) (by omega))); simp only [push_cast, seval, ↓reduceIte, Zd, hN0, hN]) : A := e p0
theorem zCd {A B : Prop} {P0 : Prop} (p0 : P0) (l1 : List Nat) (l2 : List Bool) (b : B) (e : P0 → Ar l1 → Ar l2 → Hid B → A := by intro x0 x1 x2 bZ; refine Y2 Zu [] ?_; simp only [push_cast, seval, ↓reduceIte, Zd, hN0, hN]; refine x0.then ?_; simp only [push_cast, seval, ↓reduceIte, Zd, hN0, hN]; refine Zpd x1.v x2.v ?_; simp only [push_cast, seval, ↓reduceIte, Ar.v]; exact bZ.get) : A := e p0 ⟨⟩ ⟨⟩ ⟨b⟩
theorem zC {A B : Prop} {P0 : Prop} (p0 : P0) (b : B) (e : P0 → Hid B → A := by intro x0 bZ; refine Y2 Zu [] ?_; simp only [push_cast, seval, ↓reduceIte, Zd, hN0, hN]; refine x0.then ?_; simp only [push_cast, seval, ↓reduceIte, Zd, hN0, hN]; exact bZ.get) : A := e p0 ⟨b⟩
theorem zK {A B : Prop} (b : B) (e : Hid B → A := by intro bZ; refine Z5d ?_; (try simp only [Qg, Xm]); exact bZ.get) : A := e ⟨b⟩
theorem Z8n {A B : Prop} (l0 : List (Option Bool)) {P1 : Prop} (p1 : P1) {P2 : Prop} (p2 : P2) {P3 : Prop} (p3 : P3) {P4 : Prop} (p4 : P4) (b : B) (e : Ar l0 → P1 → P2 → P3 → P4 → Hid B → A := by intro x0 x1 x2 x3 x4 bZ; refine Y2 Zu x0.v ?_; simp only [push_cast, Nat.reduceAdd, Nat.reduceSub, Nat.reduceMul, Nat.reduceLeDiff, Nat.reduceLT, Nat.reduceEqDiff, ↓reduceIte, reduceCtorEq, Int.reduceBEq, Int.reduceBNe, Nat.reduceBEq, Int.reduceLE, Int.reduceLT, Int.reduceEq, Int.reduceNe, Int.reduceNeg, Nat.reduceDiv, Nat.reduceMod, Nat.reducePow, Zd, Ar.v, x1, x2, x3, x4, hN0, hN]; exact bZ.get) : A := e ⟨⟩ p1 p2 p3 p4 ⟨b⟩
theorem zF4 {A B : Prop} {P0 : Prop} (p0 : P0) {P1 : Prop} (p1 : P1) {P2 : Prop} (p2 : P2) {P3 : Prop} (p3 : P3) (b : B) (e : P0 → P1 → P2 → P3 → Hid B → A := by intro x0 x1 x2 x3 bZ; simp only [push_cast, Nat.reduceAdd, Nat.reduceSub, Nat.reduceMul, Nat.reduceLeDiff, Nat.reduceLT, Nat.reduceEqDiff, ↓reduceIte, reduceCtorEq, Int.reduceBEq, Int.reduceBNe, Nat.reduceBEq, Int.reduceLE, Int.reduceLT, Int.reduceEq, Int.reduceNe, Int.reduceNeg, Nat.reduceDiv, Nat.reduceMod, Nat.reducePow, Zd, x0, x1, x2, x3, hN0, hN]; exact bZ.get) : A := e p0 p1 p2 p3 ⟨b⟩
theorem zDs {A B : Prop} (l0 : List Nat) (l1 : List Bool) (b : B) (e : Ar l0 → Ar l1 → Hid B → A := by intro x0 x1 bZ; refine Zpd x0.v x1.v ?_; simp only [push_cast, seval, ↓reduceIte, Ar.v]; refine Zo ?_; exact bZ.get) : A := e ⟨⟩ ⟨⟩ ⟨b⟩
theorem zG {A B : Prop} (b : B) (e : Hid B → A := by intro bZ; (repeat (with_reducible refine And.intro (by first | (intro h0; simp only [h0, and_self]; done) | (intro h0; simp only [h0, Bool.not_false, Bool.not_true, Bool.true_and, Bool.and_true, true_and, and_true, and_self, imp_self, implies_true, bne_iff_ne, ne_eq, beq_iff_eq]; done) | (intros; simp_all; done) | exact True.intro) ?_)); exact bZ.get) : A := e ⟨b⟩
theorem Ydl {A B : Prop} (l0 : List (Option Bool)) {P1 : Prop} (p1 : P1) {P2 : Prop} (p2 : P2) {P3 : Prop} (p3 : P3) {P4 : Prop} (p4 : P4) {P5 : Prop} (p5 : P5) {P6 : Prop} (p6 : P6) {P7 : Prop} (p7 : P7) (b : B) (e : Ar l0 → P1 → P2 → P3 → P4 → P5 → P6 → P7 → Hid B → A := by intro x0 x1 x2 x3 x4 x5 x6 x7 bZ; refine Y2 Zu x0.v ?_; simp only [push_cast, Nat.reduceAdd, Nat.reduceSub, Nat.reduceMul, Nat.reduceLeDiff, Nat.reduceLT, Nat.reduceEqDiff, ↓reduceIte, reduceCtorEq, Int.reduceBEq, Int.reduceBNe, Nat.reduceBEq, Int.reduceLE, Int.reduceLT, Int.reduceEq, Int.reduceNe, Int.reduceNeg, Nat.reduceDiv, Nat.reduceMod, Nat.reducePow, Zd, Ar.v, x1, x2, x3, x4, x5, x6, x7, hN0, hN]; exact bZ.get) : A := e ⟨⟩ p1 p2 p3 p4 p5 p6 p7 ⟨b⟩
theorem zF7 {A B : Prop} {P0 : Prop} (p0 : P0) {P1 : Prop} (p1 : P1) {P2 : Prop} (p2 : P2) {P3 : Prop} (p3 : P3) {P4 : Prop} (p4 : P4) {P5 : Prop} (p5 : P5) {P6 : Prop} (p6 : P6) (b : B) (e : P0 → P1 → P2 → P3 → P4 → P5 → P6 → Hid B → A := by intro x0 x1 x2 x3 x4 x5 x6 bZ; simp only [push_cast, Nat.reduceAdd, Nat.reduceSub, Nat.reduceMul, Nat.reduceLeDiff, Nat.reduceLT, Nat.reduceEqDiff, ↓reduceIte, reduceCtorEq, Int.reduceBEq, Int.reduceBNe, Nat.reduceBEq, Int.reduceLE, Int.reduceLT, Int.reduceEq, Int.reduceNe, Int.reduceNeg, Nat.reduceDiv, Nat.reduceMod, Nat.reducePow, Zd, x0, x1, x2, x3, x4, x5, x6, hN0, hN]; exact bZ.get) : A := e p0 p1 p2 p3 p4 p5 p6 ⟨b⟩
theorem Yag {A : Prop} {P0 : Prop} (p0 : P0) {P1 : Prop} (p1 : P1) {P2 : Prop} (p2 : P2) {P3 : Prop} (p3 : P3) {P4 : Prop} (p4 : P4) (e : P0 → P1 → P2 → P3 → P4 → A := by intro x0 x1 x2 x3 x4; have h9 := Option.some.inj x0; subst h9; refine And.intro rfl (Fit2.of (Xi hU rfl rfl ?_) (by omega)); simp only [push_cast, Nat.reduceAdd, Nat.reduceSub, Nat.reduceMul, Nat.reduceLeDiff, Nat.reduceLT, Nat.reduceEqDiff, ↓reduceIte, reduceCtorEq, Int.reduceBEq, Int.reduceBNe, Nat.reduceBEq, Int.reduceLE, Int.reduceLT, Int.reduceEq, Int.reduceNe, Int.reduceNeg, Nat.reduceDiv, Nat.reduceMod, Nat.reducePow, Zd, x1, x2, x3, x4, hN0, hN]) : A := e p0 p1 p2 p3 p4
theorem zEy {A : Prop} {P0 : Prop} (p0 : P0) (e : P0 → A := by intro x0; have h9 := Option.some.inj x0; subst h9; refine And.intro (fun h => by cases h) (And.intro rfl (Fit2.of (Xi hU rfl rfl ?_) (by omega))); simp only [push_cast, seval, ↓reduceIte, Zd, hN0, hN]) : A := e p0
theorem Zmp {A B : Prop} (l0 : List (Option Bool)) {P1 : Prop} (p1 : P1) {P2 : Prop} (p2 : P2) {P3 : Prop} (p3 : P3) (b : B) (e : Ar l0 → P1 → P2 → P3 → Hid B → A := by intro x0 x1 x2 x3 bZ; refine Y2 Zu x0.v ?_; simp only [push_cast, seval, ↓reduceIte, Zd, Ar.v, x1, x2, x3, hN0, hN]; exact bZ.get) : A := e ⟨⟩ p1 p2 p3 ⟨b⟩
theorem Zan {A B : Prop} (l0 : List (Option Bool)) {P1 : Prop} (p1 : P1) (b : B) (e : Ar l0 → P1 → Hid B → A := by intro x0 x1 bZ; refine Y2 Zu x0.v ?_; simp only [push_cast, seval, ↓reduceIte, Zd, Ar.v, x1, hN0, hN]; exact bZ.get) : A := e ⟨⟩ p1 ⟨b⟩
theorem Ux {A : Prop} {P0 : Prop} (p0 : P0) {P1 : Prop} (p1 : P1) (e : P0 → P1 → A := by intro x0 x1; have h9 := Option.some.inj x0; subst h9; refine And.intro rfl (Fit2.of (Xi hU rfl rfl ?_) (by omega)); simp only [push_cast, seval, ↓reduceIte, Zd, x1, hN0, hN]) : A := e p0 p1
theorem Vp {A B : Prop} (l0 : List (Option Bool)) {P1 : Prop} (p1 : P1) {P2 : Prop} (p2 : P2) (b : B) (e : Ar l0 → P1 → P2 → Hid B → A := by intro x0 x1 x2 bZ; refine Y2 Zu x0.v ?_; simp only [push_cast, seval, ↓reduceIte, Zd, Ar.v, x1, x2, hN0, hN]; exact bZ.get) : A := e ⟨⟩ p1 p2 ⟨b⟩
theorem zX2 {A B : Prop} {P0 : Prop} (p0 : P0) {P1 : Prop} (p1 : P1) (b : B) (e : P0 → P1 → Hid B → A := by intro x0 x1 bZ; simp only [push_cast, seval, ↓reduceIte, Zd, x0, x1, hN0, hN]; exact bZ.get) : A := e p0 p1 ⟨b⟩
theorem Zg4 {A : Prop} {P0 : Prop} (p0 : P0) {P1 : Prop} (p1 : P1) {P2 : Prop} (p2 : P2) (e : P0 → P1 → P2 → A := by intro x0 x1 x2; have h9 := Option.some.inj x0; subst h9; refine And.intro rfl (Fit2.of (Xi hU rfl rfl ?_) (by omega)); simp only [push_cast, seval, ↓reduceIte, Zd, x1, x2, hN0, hN]) : A := e p0 p1 p2
theorem zRo {A B : Prop} (l0 : List (Option Bool)) (b : B) (e : Ar l0 → Hid B → A := by intro x0 bZ; refine Y2 Zu x0.v ?_; simp only [push_cast, seval, ↓reduceIte, Zd, Ar.v, hN0, hN]; exact bZ.get) : A := e ⟨⟩ ⟨b⟩
theorem zTs {A B : Prop} {P0 : Prop} (p0 : P0) (b : B) (e : P0 → Hid B → A := by intro x0 bZ; refine x0.then ?_; simp only [push_cast, seval, ↓reduceIte, Zd, hN0, hN]; exact bZ.get) : A := e p0 ⟨b⟩
theorem zX1 {A B : Prop} {P0 : Prop} (p0 : P0) (b : B) (e : P0 → Hid B → A := by intro x0 bZ; simp only [push_cast, seval, ↓reduceIte, Zd, x0, hN0, hN]; exact bZ.get) : A := e p0 ⟨b⟩
theorem Z4a {A B : Prop} (l0 : List (Option Bool)) {P1 : Prop} (p1 : P1) {P2 : Prop} (p2 : P2) {P3 : Prop} (p3 : P3) {P4 : Prop} (p4 : P4) {P5 : Prop} (p5 : P5) (b : B) (e : Ar l0 → P1 → P2 → P3 → P4 → P5 → Hid B → A := by intro x0 x1 x2 x3 x4 x5 bZ; refine Y2 Zu x0.v ?_; simp only [push_cast, Nat.reduceAdd, Nat.reduceSub, Nat.reduceMul, Nat.reduceLeDiff, Nat.reduceLT, Nat.reduceEqDiff, ↓reduceIte, reduceCtorEq, Int.reduceBEq, Int.reduceBNe, Nat.reduceBEq, Int.reduceLE, Int.reduceLT, Int.reduceEq, Int.reduceNe, Int.reduceNeg, Nat.reduceDiv, Nat.reduceMod, Nat.reducePow, Zd, Ar.v, x1, x2, x3, x4, x5, hN0, hN]; exact bZ.get) : A := e ⟨⟩ p1 p2 p3 p4 p5 ⟨b⟩
theorem zF5 {A B : Prop} {P0 : Prop} (p0 : P0) {P1 : Prop} (p1 : P1) {P2 : Prop} (p2 : P2) {P3 : Prop} (p3 : P3) {P4 : Prop} (p4 : P4) (b : B) (e : P0 → P1 → P2 → P3 → P4 → Hid B → A := by intro x0 x1 x2 x3 x4 bZ; simp only [push_cast, Nat.reduceAdd, Nat.reduceSub, Nat.reduceMul, Nat.reduceLeDiff, Nat.reduceLT, Nat.reduceEqDiff, ↓reduceIte, reduceCtorEq, Int.reduceBEq, Int.reduceBNe, Nat.reduceBEq, Int.reduceLE, Int.reduceLT, Int.reduceEq, Int.reduceNe, Int.reduceNeg, Nat.reduceDiv, Nat.reduceMod, Nat.reducePow, Zd, x0, x1, x2, x3, x4, hN0, hN]; exact bZ.get) : A := e p0 p1 p2 p3 p4 ⟨b⟩
theorem Yah {A : Prop} {P0 : Prop} (p0 : P0) {P1 : Prop} (p1 : P1) {P2 : Prop} (p2 : P2) {P3 : Prop} (p3 : P3) {P4 : Prop} (p4 : P4) {P5 : Prop} (p5 : P5) (e : P0 → P1 → P2 → P3 → P4 → P5 → A := by intro x0 x1 x2 x3 x4 x5; have h9 := Option.some.inj x0; subst h9; refine And.intro rfl (Fit2.of (Xi hU rfl rfl ?_) (by omega)); simp only [push_cast, Nat.reduceAdd, Nat.reduceSub, Nat.reduceMul, Nat.reduceLeDiff, Nat.reduceLT, Nat.reduceEqDiff, ↓reduceIte, reduceCtorEq, Int.reduceBEq, Int.reduceBNe, Nat.reduceBEq, Int.reduceLE, Int.reduceLT, Int.reduceEq, Int.reduceNe, Int.reduceNeg, Nat.reduceDiv, Nat.reduceMod, Nat.reducePow, Zd, x1, x2, x3, x4, x5, hN0, hN]) : A := e p0 p1 p2 p3 p4 p5
theorem Ydk {A B : Prop} (l0 : List Nat) {P1 : Prop} (p1 : P1) {P2 : Prop} (p2 : P2) {P3 : Prop} (p3 : P3) {P4 : Prop} (p4 : P4) (b : B) (e : Ar l0 → P1 → P2 → P3 → P4 → Hid B → A := by intro x0 x1 x2 x3 x4 bZ; refine Zn2 x0.v (Y2 Zu [] ?_); simp only [push_cast, seval, ↓reduceIte, Zd, Ar.v, x1, x2, x3, x4, hN0, hN]; exact bZ.get) : A := e ⟨⟩ p1 p2 p3 p4 ⟨b⟩
theorem zRd {A B : Prop} (l0 : List Nat) (l1 : List Bool) (b : B) (e : Ar l0 → Ar l1 → Hid B → A := by intro x0 x1 bZ; refine Y2 Zu [] ?_; simp only [push_cast, seval, ↓reduceIte, Zd, hN0, hN]; refine Zpd x0.v x1.v ?_; simp only [push_cast, seval, ↓reduceIte, Ar.v]; exact bZ.get) : A := e ⟨⟩ ⟨⟩ ⟨b⟩
theorem zS {A B : Prop} (b : B) (e : Hid B → A := by intro bZ; simp only [push_cast, seval, ↓reduceIte, Zd, hN0, hN]; exact bZ.get) : A := e ⟨b⟩
theorem zSe {A : Prop} (e : A := by simp only [push_cast, seval, ↓reduceIte, Zd, hN0, hN]) : A := e
theorem X3 {A : Prop} {P0 : Prop} (p0 : P0) {P1 : Prop} (p1 : P1) (e : P0 → P1 → A := by intro x0 x1; simp only [push_cast, seval, ↓reduceIte, Zd, x0, x1, hN0, hN]) : A := e p0 p1
theorem Z49 {A : Prop} {P0 : Prop} (p0 : P0) (e : P0 → A := by intro x0; simp only [push_cast, seval, ↓reduceIte, Zd, x0, hN0, hN]) : A := e p0
theorem Zvz {A : Prop} {P0 : Prop} (p0 : P0) {P1 : Prop} (p1 : P1) {P2 : Prop} (p2 : P2) {P3 : Prop} (p3 : P3) (e : P0 → P1 → P2 → P3 → A := by intro x0 x1 x2 x3; have h9 := Option.some.inj x0; subst h9; refine And.intro rfl (Fit2.of (Xi hU rfl rfl ?_) (by omega)); simp only [push_cast, seval, ↓reduceIte, Zd, x1, x2, x3, hN0, hN]) : A := e p0 p1 p2 p3
theorem zX3 {A B : Prop} {P0 : Prop} (p0 : P0) {P1 : Prop} (p1 : P1) {P2 : Prop} (p2 : P2) (b : B) (e : P0 → P1 → P2 → Hid B → A := by intro x0 x1 x2 bZ; simp only [push_cast, seval, ↓reduceIte, Zd, x0, x1, x2, hN0, hN]; exact bZ.get) : A := e p0 p1 p2 ⟨b⟩
theorem zXt {A B : Prop} (b : B) (e : Hid B → A := by intro bZ; refine Z5b ?_; (try simp only [Qg, Xm, ↓reduceIte, Nat.reduceEqDiff]); exact bZ.get) : A := e ⟨b⟩
theorem Zut {A B : Prop} (l0 : List (Option Bool)) {P1 : Prop} (p1 : P1) {P2 : Prop} (p2 : P2) {P3 : Prop} (p3 : P3) {P4 : Prop} (p4 : P4) (b : B) (e : Ar l0 → P1 → P2 → P3 → P4 → Hid B → A := by intro x0 x1 x2 x3 x4 bZ; refine Y2 Zu x0.v ?_; simp only [push_cast, seval, ↓reduceIte, Zd, Ar.v, x1, x2, x3, x4, hN0, hN]; exact bZ.get) : A := e ⟨⟩ p1 p2 p3 p4 ⟨b⟩
theorem Zus {A : Prop} {P0 : Prop} (p0 : P0) {P1 : Prop} (p1 : P1) {P2 : Prop} (p2 : P2) {P3 : Prop} (p3 : P3) {P4 : Prop} (p4 : P4) (e : P0 → P1 → P2 → P3 → P4 → A := by intro x0 x1 x2 x3 x4; have h9 := Option.some.inj x0; subst h9; refine And.intro rfl (Fit2.of (Xi hU rfl rfl ?_) (by omega)); simp only [push_cast, seval, ↓reduceIte, Zd, x1, x2, x3, x4, hN0, hN]) : A := e p0 p1 p2 p3 p4
theorem Z00 {A B : Prop} (l0 : List (Option Bool)) {P1 : Prop} (p1 : P1) {P2 : Prop} (p2 : P2) {P3 : Prop} (p3 : P3) {P4 : Prop} (p4 : P4) {P5 : Prop} (p5 : P5) {P6 : Prop} (p6 : P6) (b : B) (e : Ar l0 → P1 → P2 → P3 → P4 → P5 → P6 → Hid B → A := by intro x0 x1 x2 x3 x4 x5 x6 bZ; refine Y2 Zu x0.v ?_; simp only [push_cast, seval, ↓reduceIte, Zd, Ar.v, x1, x2, x3, x4, x5, x6, hN0, hN]; exact bZ.get) : A := e ⟨⟩ p1 p2 p3 p4 p5 p6 ⟨b⟩
theorem Z8m {A : Prop} {P0 : Prop} (p0 : P0) {P1 : Prop} (p1 : P1) {P2 : Prop} (p2 : P2) {P3 : Prop} (p3 : P3) {P4 : Prop} (p4 : P4) {P5 : Prop} (p5 : P5) {P6 : Prop} (p6 : P6) (e : P0 → P1 → P2 → P3 → P4 → P5 → P6 → A := by intro x0 x1 x2 x3 x4 x5 x6; have h9 := Option.some.inj x0; subst h9; refine And.intro rfl (Fit2.of (Xi hU rfl rfl ?_) (by omega)); simp only [push_cast, seval, ↓reduceIte, Zd, x1, x2, x3, x4, x5, x6, hN0, hN]) : A := e p0 p1 p2 p3 p4 p5 p6
theorem zX6 {A B : Prop} {P0 : Prop} (p0 : P0) {P1 : Prop} (p1 : P1) {P2 : Prop} (p2 : P2) {P3 : Prop} (p3 : P3) {P4 : Prop} (p4 : P4) {P5 : Prop} (p5 : P5) (b : B) (e : P0 → P1 → P2 → P3 → P4 → P5 → Hid B → A := by intro x0 x1 x2 x3 x4 x5 bZ; simp only [push_cast, seval, ↓reduceIte, Zd, x0, x1, x2, x3, x4, x5, hN0, hN]; exact bZ.get) : A := e p0 p1 p2 p3 p4 p5 ⟨b⟩
theorem Zuu {A B : Prop} (l0 : List (Option Bool)) {P1 : Prop} (p1 : P1) {P2 : Prop} (p2 : P2) {P3 : Prop} (p3 : P3) {P4 : Prop} (p4 : P4) {P5 : Prop} (p5 : P5) (b : B) (e : Ar l0 → P1 → P2 → P3 → P4 → P5 → Hid B → A := by intro x0 x1 x2 x3 x4 x5 bZ; refine Y2 Zu x0.v ?_; simp only [push_cast, seval, ↓reduceIte, Zd, Ar.v, x1, x2, x3, x4, x5, hN0, hN]; exact bZ.get) : A := e ⟨⟩ p1 p2 p3 p4 p5 ⟨b⟩
theorem Zv0 {A : Prop} {P0 : Prop} (p0 : P0) {P1 : Prop} (p1 : P1) {P2 : Prop} (p2 : P2) {P3 : Prop} (p3 : P3) {P4 : Prop} (p4 : P4) {P5 : Prop} (p5 : P5) (e : P0 → P1 → P2 → P3 → P4 → P5 → A := by intro x0 x1 x2 x3 x4 x5; have h9 := Option.some.inj x0; subst h9; refine And.intro rfl (Fit2.of (Xi hU rfl rfl ?_) (by omega)); simp only [push_cast, seval, ↓reduceIte, Zd, x1, x2, x3, x4, x5, hN0, hN]) : A := e p0 p1 p2 p3 p4 p5
theorem zX5 {A B : Prop} {P0 : Prop} (p0 : P0) {P1 : Prop} (p1 : P1) {P2 : Prop} (p2 : P2) {P3 : Prop} (p3 : P3) {P4 : Prop} (p4 : P4) (b : B) (e : P0 → P1 → P2 → P3 → P4 → Hid B → A := by intro x0 x1 x2 x3 x4 bZ; simp only [push_cast, seval, ↓reduceIte, Zd, x0, x1, x2, x3, x4, hN0, hN]; exact bZ.get) : A := e p0 p1 p2 p3 p4 ⟨b⟩
theorem zX4 {A B : Prop} {P0 : Prop} (p0 : P0) {P1 : Prop} (p1 : P1) {P2 : Prop} (p2 : P2) {P3 : Prop} (p3 : P3) (b : B) (e : P0 → P1 → P2 → P3 → Hid B → A := by intro x0 x1 x2 x3 bZ; simp only [push_cast, seval, ↓reduceIte, Zd, x0, x1, x2, x3, hN0, hN]; exact bZ.get) : A := e p0 p1 p2 p3 ⟨b⟩
theorem zF6 {A B : Prop} {P0 : Prop} (p0 : P0) {P1 : Prop} (p1 : P1) {P2 : Prop} (p2 : P2) {P3 : Prop} (p3 : P3) {P4 : Prop} (p4 : P4) {P5 : Prop} (p5 : P5) (b : B) (e : P0 → P1 → P2 → P3 → P4 → P5 → Hid B → A := by intro x0 x1 x2 x3 x4 x5 bZ; simp only [push_cast, Nat.reduceAdd, Nat.reduceSub, Nat.reduceMul, Nat.reduceLeDiff, Nat.reduceLT, Nat.reduceEqDiff, ↓reduceIte, reduceCtorEq, Int.reduceBEq, Int.reduceBNe, Nat.reduceBEq, Int.reduceLE, Int.reduceLT, Int.reduceEq, Int.reduceNe, Int.reduceNeg, Nat.reduceDiv, Nat.reduceMod, Nat.reducePow, Zd, x0, x1, x2, x3, x4, x5, hN0, hN]; exact bZ.get) : A := e p0 p1 p2 p3 p4 p5 ⟨b⟩
theorem Ybh {A : Prop} {P0 : Prop} (p0 : P0) {P1 : Prop} (p1 : P1) {P2 : Prop} (p2 : P2) {P3 : Prop} (p3 : P3) {P4 : Prop} (p4 : P4) (e : P0 → P1 → P2 → P3 → P4 → A := by intro x0 x1 x2 x3 x4; simp only [push_cast, seval, ↓reduceIte, Zd, x0, x1, x2, x3, x4, hN0, hN]) : A := e p0 p1 p2 p3 p4
theorem Vq {A B : Prop} (l0 : List Nat) {P1 : Prop} (p1 : P1) {P2 : Prop} (p2 : P2) (b : B) (e : Ar l0 → P1 → P2 → Hid B → A := by intro x0 x1 x2 bZ; refine Zn2 x0.v (Y2 Zu [] ?_); simp only [push_cast, seval, ↓reduceIte, Zd, Ar.v, x1, x2, hN0, hN]; exact bZ.get) : A := e ⟨⟩ p1 p2 ⟨b⟩
theorem Z8o {A B : Prop} (l0 : List (Option Bool)) {P1 : Prop} (p1 : P1) {P2 : Prop} (p2 : P2) {P3 : Prop} (p3 : P3) {P4 : Prop} (p4 : P4) {P5 : Prop} (p5 : P5) {P6 : Prop} (p6 : P6) (b : B) (e : Ar l0 → P1 → P2 → P3 → P4 → P5 → P6 → Hid B → A := by intro x0 x1 x2 x3 x4 x5 x6 bZ; refine Y2 Zu x0.v ?_; simp only [push_cast, Nat.reduceAdd, Nat.reduceSub, Nat.reduceMul, Nat.reduceLeDiff, Nat.reduceLT, Nat.reduceEqDiff, ↓reduceIte, reduceCtorEq, Int.reduceBEq, Int.reduceBNe, Nat.reduceBEq, Int.reduceLE, Int.reduceLT, Int.reduceEq, Int.reduceNe, Int.reduceNeg, Nat.reduceDiv, Nat.reduceMod, Nat.reducePow, Zd, Ar.v, x1, x2, x3, x4, x5, x6, hN0, hN]; exact bZ.get) : A := e ⟨⟩ p1 p2 p3 p4 p5 p6 ⟨b⟩
theorem Z9z {A : Prop} {P0 : Prop} (p0 : P0) {P1 : Prop} (p1 : P1) {P2 : Prop} (p2 : P2) {P3 : Prop} (p3 : P3) {P4 : Prop} (p4 : P4) {P5 : Prop} (p5 : P5) (e : P0 → P1 → P2 → P3 → P4 → P5 → A := by intro x0 x1 x2 x3 x4 x5; simp only [push_cast, Nat.reduceAdd, Nat.reduceSub, Nat.reduceMul, Nat.reduceLeDiff, Nat.reduceLT, Nat.reduceEqDiff, ↓reduceIte, reduceCtorEq, Int.reduceBEq, Int.reduceBNe, Nat.reduceBEq, Int.reduceLE, Int.reduceLT, Int.reduceEq, Int.reduceNe, Int.reduceNeg, Nat.reduceDiv, Nat.reduceMod, Nat.reducePow, Zd, x0, x1, x2, x3, x4, x5, hN0, hN]) : A := e p0 p1 p2 p3 p4 p5
theorem zF9 {A B : Prop} {P0 : Prop} (p0 : P0) {P1 : Prop} (p1 : P1) {P2 : Prop} (p2 : P2) {P3 : Prop} (p3 : P3) {P4 : Prop} (p4 : P4) {P5 : Prop} (p5 : P5) {P6 : Prop} (p6 : P6) {P7 : Prop} (p7 : P7) {P8 : Prop} (p8 : P8) (b : B) (e : P0 → P1 → P2 → P3 → P4 → P5 → P6 → P7 → P8 → Hid B → A := by intro x0 x1 x2 x3 x4 x5 x6 x7 x8 bZ; simp only [push_cast, Nat.reduceAdd, Nat.reduceSub, Nat.reduceMul, Nat.reduceLeDiff, Nat.reduceLT, Nat.reduceEqDiff, ↓reduceIte, reduceCtorEq, Int.reduceBEq, Int.reduceBNe, Nat.reduceBEq, Int.reduceLE, Int.reduceLT, Int.reduceEq, Int.reduceNe, Int.reduceNeg, Nat.reduceDiv, Nat.reduceMod, Nat.reducePow, Zd, x0, x1, x2, x3, x4, x5, x6, x7, x8, hN0, hN]; exact bZ.get) : A := e p0 p1 p2 p3 p4 p5 p6 p7 p8 ⟨b⟩
theorem zO {A B : Prop} (b : B) (e : Hid B → A := by intro bZ; (repeat (with_reducible refine And.intro (by first | omega | exact Ud rfl | exact K5 | exact Z4e rfl | exact Zzp rfl rfl | exact Zrx rfl | exact Zzo rfl) ?_)); exact bZ.get) : A := e ⟨b⟩
theorem Zzl {A : Prop} {P0 : Prop} (p0 : P0) {P1 : Prop} (p1 : P1) {P2 : Prop} (p2 : P2) {P3 : Prop} (p3 : P3) {P4 : Prop} (p4 : P4) {P5 : Prop} (p5 : P5) {P6 : Prop} (p6 : P6) {P7 : Prop} (p7 : P7) {P8 : Prop} (p8 : P8) (e : P0 → P1 → P2 → P3 → P4 → P5 → P6 → P7 → P8 → A := by intro x0 x1 x2 x3 x4 x5 x6 x7 x8; simp only [push_cast, Nat.reduceAdd, Nat.reduceSub, Nat.reduceMul, Nat.reduceLeDiff, Nat.reduceLT, Nat.reduceEqDiff, ↓reduceIte, reduceCtorEq, Int.reduceBEq, Int.reduceBNe, Nat.reduceBEq, Int.reduceLE, Int.reduceLT, Int.reduceEq, Int.reduceNe, Int.reduceNeg, Nat.reduceDiv, Nat.reduceMod, Nat.reducePow, Zd, x0, x1, x2, x3, x4, x5, x6, x7, x8, hN0, hN]) : A := e p0 p1 p2 p3 p4 p5 p6 p7 p8
theorem zEf {A : Prop} (e : A := by refine And.intro rfl (Fit2.of (Xi hU rfl rfl ?_) (by omega)); simp only [push_cast, seval, ↓reduceIte, Zd, hN0, hN]) : A := e
theorem Zzm {A : Prop} {P0 : Prop} (p0 : P0) {P1 : Prop} (p1 : P1) {P2 : Prop} (p2 : P2) (e : P0 → P1 → P2 → A := by intro x0 x1 x2; simp only [push_cast, seval, ↓reduceIte, Zd, x0, x1, x2, hN0, hN]) : A := e p0 p1 p2
theorem zF8 {A B : Prop} {P0 : Prop} (p0 : P0) {P1 : Prop} (p1 : P1) {P2 : Prop} (p2 : P2) {P3 : Prop} (p3 : P3) {P4 : Prop} (p4 : P4) {P5 : Prop} (p5 : P5) {P6 : Prop} (p6 : P6) {P7 : Prop} (p7 : P7) (b : B) (e : P0 → P1 → P2 → P3 → P4 → P5 → P6 → P7 → Hid B → A := by intro x0 x1 x2 x3 x4 x5 x6 x7 bZ; simp only [push_cast, Nat.reduceAdd, Nat.reduceSub, Nat.reduceMul, Nat.reduceLeDiff, Nat.reduceLT, Nat.reduceEqDiff, ↓reduceIte, reduceCtorEq, Int.reduceBEq, Int.reduceBNe, Nat.reduceBEq, Int.reduceLE, Int.reduceLT, Int.reduceEq, Int.reduceNe, Int.reduceNeg, Nat.reduceDiv, Nat.reduceMod, Nat.reducePow, Zd, x0, x1, x2, x3, x4, x5, x6, x7, hN0, hN]; exact bZ.get) : A := e p0 p1 p2 p3 p4 p5 p6 p7 ⟨b⟩
theorem Ydj {A : Prop} {P0 : Prop} (p0 : P0) {P1 : Prop} (p1 : P1) {P2 : Prop} (p2 : P2) {P3 : Prop} (p3 : P3) {P4 : Prop} (p4 : P4) {P5 : Prop} (p5 : P5) {P6 : Prop} (p6 : P6) {P7 : Prop} (p7 : P7) (e : P0 → P1 → P2 → P3 → P4 → P5 → P6 → P7 → A := by intro x0 x1 x2 x3 x4 x5 x6 x7; simp only [push_cast, Nat.reduceAdd, Nat.reduceSub, Nat.reduceMul, Nat.reduceLeDiff, Nat.reduceLT, Nat.reduceEqDiff, ↓reduceIte, reduceCtorEq, Int.reduceBEq, Int.reduceBNe, Nat.reduceBEq, Int.reduceLE, Int.reduceLT, Int.reduceEq, Int.reduceNe, Int.reduceNeg, Nat.reduceDiv, Nat.reduceMod, Nat.reducePow, Zd, x0, x1, x2, x3, x4, x5, x6, x7, hN0, hN]) : A := e p0 p1 p2 p3 p4 p5 p6 p7
theorem Ye0 {A B : Prop} {P0 : Prop} (p0 : P0) {P1 : Prop} (p1 : P1) {P2 : Prop} (p2 : P2) {P3 : Prop} (p3 : P3) {P4 : Prop} (p4 : P4) {P5 : Prop} (p5 : P5) {P6 : Prop} (p6 : P6) {P7 : Prop} (p7 : P7) {P8 : Prop} (p8 : P8) {P9 : Prop} (p9 : P9) {P10 : Prop} (p10 : P10) {P11 : Prop} (p11 : P11) (b : B) (e : P0 → P1 → P2 → P3 → P4 → P5 → P6 → P7 → P8 → P9 → P10 → P11 → Hid B → A := by intro x0 x1 x2 x3 x4 x5 x6 x7 x8 x9 x10 x11 bZ; simp only [push_cast, Nat.reduceAdd, Nat.reduceSub, Nat.reduceMul, Nat.reduceLeDiff, Nat.reduceLT, Nat.reduceEqDiff, ↓reduceIte, reduceCtorEq, Int.reduceBEq, Int.reduceBNe, Nat.reduceBEq, Int.reduceLE, Int.reduceLT, Int.reduceEq, Int.reduceNe, Int.reduceNeg, Nat.reduceDiv, Nat.reduceMod, Nat.reducePow, Zd, x0, x1, x2, x3, x4, x5, x6, x7, x8, x9, x10, x11, hN0, hN]; exact bZ.get) : A := e p0 p1 p2 p3 p4 p5 p6 p7 p8 p9 p10 p11 ⟨b⟩
theorem Ydi {A : Prop} {P0 : Prop} (p0 : P0) {P1 : Prop} (p1 : P1) {P2 : Prop} (p2 : P2) {P3 : Prop} (p3 : P3) {P4 : Prop} (p4 : P4) {P5 : Prop} (p5 : P5) {P6 : Prop} (p6 : P6) {P7 : Prop} (p7 : P7) {P8 : Prop} (p8 : P8) {P9 : Prop} (p9 : P9) {P10 : Prop} (p10 : P10) {P11 : Prop} (p11 : P11) (e : P0 → P1 → P2 → P3 → P4 → P5 → P6 → P7 → P8 → P9 → P10 → P11 → A := by intro x0 x1 x2 x3 x4 x5 x6 x7 x8 x9 x10 x11; simp only [push_cast, Nat.reduceAdd, Nat.reduceSub, Nat.reduceMul, Nat.reduceLeDiff, Nat.reduceLT, Nat.reduceEqDiff, ↓reduceIte, reduceCtorEq, Int.reduceBEq, Int.reduceBNe, Nat.reduceBEq, Int.reduceLE, Int.reduceLT, Int.reduceEq, Int.reduceNe, Int.reduceNeg, Nat.reduceDiv, Nat.reduceMod, Nat.reducePow, Zd, x0, x1, x2, x3, x4, x5, x6, x7, x8, x9, x10, x11, hN0, hN]) : A := e p0 p1 p2 p3 p4 p5 p6 p7 p8 p9 p10 p11
theorem Ydm {A B : Prop} (l0 : List (Option Bool)) {P1 : Prop} (p1 : P1) {P2 : Prop} (p2 : P2) {P3 : Prop} (p3 : P3) {P4 : Prop} (p4 : P4) {P5 : Prop} (p5 : P5) {P6 : Prop} (p6 : P6) {P7 : Prop} (p7 : P7) {P8 : Prop} (p8 : P8) (b : B) (e : Ar l0 → P1 → P2 → P3 → P4 → P5 → P6 → P7 → P8 → Hid B → A := by intro x0 x1 x2 x3 x4 x5 x6 x7 x8 bZ; refine Y2 Zu x0.v ?_; simp only [push_cast, Nat.reduceAdd, Nat.reduceSub, Nat.reduceMul, Nat.reduceLeDiff, Nat.reduceLT, Nat.reduceEqDiff, ↓reduceIte, reduceCtorEq, Int.reduceBEq, Int.reduceBNe, Nat.reduceBEq, Int.reduceLE, Int.reduceLT, Int.reduceEq, Int.reduceNe, Int.reduceNeg, Nat.reduceDiv, Nat.reduceMod, Nat.reducePow, Zd, Ar.v, x1, x2, x3, x4, x5, x6, x7, x8, hN0, hN]; exact bZ.get) : A := e ⟨⟩ p1 p2 p3 p4 p5 p6 p7 p8 ⟨b⟩
theorem Ydh {A : Prop} {P0 : Prop} (p0 : P0) {P1 : Prop} (p1 : P1) {P2 : Prop} (p2 : P2) {P3 : Prop} (p3 : P3) {P4 : Prop} (p4 : P4) {P5 : Prop} (p5 : P5) {P6 : Prop} (p6 : P6) {P7 : Prop} (p7 : P7) {P8 : Prop} (p8 : P8) (e : P0 → P1 → P2 → P3 → P4 → P5 → P6 → P7 → P8 → A := by intro x0 x1 x2 x3 x4 x5 x6 x7 x8; have h9 := Option.some.inj x0; subst h9; refine And.intro rfl (Fit2.of (Xi hU rfl rfl ?_) (by omega)); simp only [push_cast, Nat.reduceAdd, Nat.reduceSub, Nat.reduceMul, Nat.reduceLeDiff, Nat.reduceLT, Nat.reduceEqDiff, ↓reduceIte, reduceCtorEq, Int.reduceBEq, Int.reduceBNe, Nat.reduceBEq, Int.reduceLE, Int.reduceLT, Int.reduceEq, Int.reduceNe, Int.reduceNeg, Nat.reduceDiv, Nat.reduceMod, Nat.reducePow, Zd, x1, x2, x3, x4, x5, x6, x7, x8, hN0, hN]) : A := e p0 p1 p2 p3 p4 p5 p6 p7 p8
theorem Yaj {A B : Prop} (l0 : List (Option Bool)) {P1 : Prop} (p1 : P1) {P2 : Prop} (p2 : P2) {P3 : Prop} (p3 : P3) {P4 : Prop} (p4 : P4) {P5 : Prop} (p5 : P5) {P6 : Prop} (p6 : P6) {P7 : Prop} (p7 : P7) (b : B) (e : Ar l0 → P1 → P2 → P3 → P4 → P5 → P6 → P7 → Hid B → A := by intro x0 x1 x2 x3 x4 x5 x6 x7 bZ; refine Y2 Zu x0.v ?_; simp only [push_cast, seval, ↓reduceIte, Zd, Ar.v, x1, x2, x3, x4, x5, x6, x7, hN0, hN]; exact bZ.get) : A := e ⟨⟩ p1 p2 p3 p4 p5 p6 p7 ⟨b⟩
theorem Yai {A : Prop} {P0 : Prop} (p0 : P0) {P1 : Prop} (p1 : P1) {P2 : Prop} (p2 : P2) {P3 : Prop} (p3 : P3) {P4 : Prop} (p4 : P4) {P5 : Prop} (p5 : P5) {P6 : Prop} (p6 : P6) {P7 : Prop} (p7 : P7) (e : P0 → P1 → P2 → P3 → P4 → P5 → P6 → P7 → A := by intro x0 x1 x2 x3 x4 x5 x6 x7; have h9 := Option.some.inj x0; subst h9; refine And.intro rfl (Fit2.of (Xi hU rfl rfl ?_) (by omega)); simp only [push_cast, seval, ↓reduceIte, Zd, x1, x2, x3, x4, x5, x6, x7, hN0, hN]) : A := e p0 p1 p2 p3 p4 p5 p6 p7
end Go.Proofs.YtgpaglmhkklneaaGreat
