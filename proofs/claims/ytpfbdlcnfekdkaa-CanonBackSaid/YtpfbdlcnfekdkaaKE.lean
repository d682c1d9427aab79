/- Part KE of this seat's mirrors: functions of the seat's program, and the plain functions that they are; each theorem bears its own conditions. -/
import Derived.Test.YtpfbdlcnfekdkaaTy
import Derived.Test.YtpfbdlcnfekdkaaKD
namespace Go.Proofs.Ytpfbdlcnfekdkaa
open Go.RowKit
set_option linter.unusedVariables false
set_option linter.unusedSimpArgs false
set_option maxRecDepth 100000
set_option maxHeartbeats 4000000
mutual
def Gp : Za → List G
 | ⟨f0, f1, f2⟩ => [.val (.int .i64 f0), .sl f1.length (fl (eI .u64) f1), .sl f2.length (Gq f2)]
def Gq : List Za → List G
 | [] => []
 | x :: xs => Gp x ++ Gq xs
end
theorem Zjl : ∀ xs, Gq xs = fl Gp xs
 | [] => by simp [Gq, fl]
 | x :: xs => by rw [Gq, Gc, Zjl xs]
def Zc (x : Za) : List G := [.val (.int .i64 x.Kind), .sl x.Words.length (fl (eI .u64) x.Words), .sl x.Kids.length (fl Gp x.Kids)]
theorem Yu : Gp = Zc := by
 funext x
 obtain ⟨_, _, _⟩ := x
 simp only [Gp, Zjl, Zc, List.cons_append, List.nil_append, List.append_nil]
mutual
theorem Znc : ∀ x, G.pures (Gp x) = true
 | ⟨f0, f1, f2⟩ => by simp [Gp, eP, Za6, eI, eB, eS, eL, G.pures, G.pure, Zon, Yr, Zln f2]
theorem Zln : ∀ xs, G.pures (Gq xs) = true
 | [] => rfl
 | x :: xs => by simp [Gq, Zon, Znc x, Zln xs]
end
theorem Uf : ∀ x, G.pures ((eI .u64) x) = true := fun x => by simp [eI, eB, eS, eL, eP, G.pures, G.pure, Yr, Za6, Yu]
theorem Zh8 {O O' : Objs} {n : Nat} (xs : List Int) : wkl O O' n (fl (eI .u64) xs) (fl (eI .u64) xs) := Zh9 (Yr Uf xs)
theorem Zh5 {O O' : Objs} {n : Nat} (xs : List Int) (b b' : List G) : wkl O O' n (fl (eI .u64) xs ++ b) (fl (eI .u64) xs ++ b') = wkl O O' n b b' := Zf8 b b' _ (Yr Uf xs)
theorem Zhe (xs : List Int) : (fl (eI .u64) xs).length = xs.length * 1 := K2 (f := (eI .u64)) (k := 1) (fun _ => rfl) xs
theorem Zhn (xs : List Int) : (fl (eI .u64) xs).all G.one = true := Zbz (fun x => by simp [eI, eB, eS, eL, eP, Zgg, G.one, Value.oneCell']) xs
theorem Zib {O O' : Objs} {n : Nat} (x : Option Int) : wk O O' n (gP (eI .u64) x) (gP (eI .u64) x) = True := Zxo Uf x
theorem Zf7 {k : Nat} (x : Option Int) : (gP (eI .u64) x).under k = true := Zf5 Uf k x
theorem Zf2 {ρ : Nat → Nat} (xs : List Int) : G.rens ρ (fl (eI .u64) xs) = fl (eI .u64) xs := Ug ρ _ (Yr Uf xs)
theorem Zf0 {ρ : Nat → Nat} (x : Option Int) : (gP (eI .u64) x).ren ρ = gP (eI .u64) x := Zem ρ _ (Za6 Uf x)
theorem Zh3 {k : Nat} (xs : List Int) : G.unders k (fl (eI .u64) xs) = true := Qj _ _ (Yr Uf xs)
theorem Xr : ∀ x, G.pures (Zc x) = true := fun x => by rw [← Yu]; exact Znc x
theorem Zat {O O' : Objs} {n : Nat} (xs : List Za) : wkl O O' n (fl Zc xs) (fl Zc xs) := Zh9 (Yr Xr xs)
theorem Zas {O O' : Objs} {n : Nat} (xs : List Za) (b b' : List G) : wkl O O' n (fl Zc xs ++ b) (fl Zc xs ++ b') = wkl O O' n b b' := Zf8 b b' _ (Yr Xr xs)
theorem Zai (xs : List Za) : (fl Zc xs).length = xs.length * 3 := K2 (f := Zc) (k := 3) (fun _ => rfl) xs
theorem Zao (xs : List Za) : (fl Zc xs).all G.one = true := Zbz (fun x => by simp [eI, eB, eS, eL, eP, Zgg, G.one, Value.oneCell', Zc]) xs
theorem Zau {O O' : Objs} {n : Nat} (x : Option Za) : wk O O' n (gP Zc x) (gP Zc x) = True := Zxo Xr x
theorem Gm {k : Nat} (x : Option Za) : (gP Zc x).under k = true := Zf5 Xr k x
theorem Gl {ρ : Nat → Nat} (xs : List Za) : G.rens ρ (fl Zc xs) = fl Zc xs := Ug ρ _ (Yr Xr xs)
theorem Gk {ρ : Nat → Nat} (x : Option Za) : (gP Zc x).ren ρ = gP Zc x := Zem ρ _ (Za6 Xr x)
theorem Zar {k : Nat} (xs : List Za) : G.unders k (fl Zc xs) = true := Qj _ _ (Yr Xr xs)
theorem Zap : ∀ x, G.pures ((eI .i64) x) = true := fun x => by simp [eI, eB, eS, eL, eP, G.pures, G.pure, Yr, Za6, Uf, Xr, Yu]
theorem Zh7 {O O' : Objs} {n : Nat} (xs : List Int) : wkl O O' n (fl (eI .i64) xs) (fl (eI .i64) xs) := Zh9 (Yr Zap xs)
theorem Zh4 {O O' : Objs} {n : Nat} (xs : List Int) (b b' : List G) : wkl O O' n (fl (eI .i64) xs ++ b) (fl (eI .i64) xs ++ b') = wkl O O' n b b' := Zf8 b b' _ (Yr Zap xs)
theorem Zhd (xs : List Int) : (fl (eI .i64) xs).length = xs.length * 1 := K2 (f := (eI .i64)) (k := 1) (fun _ => rfl) xs
theorem Zhm (xs : List Int) : (fl (eI .i64) xs).all G.one = true := Zbz (fun x => by simp [eI, eB, eS, eL, eP, Zgg, G.one, Value.oneCell']) xs
theorem Zia {O O' : Objs} {n : Nat} (x : Option Int) : wk O O' n (gP (eI .i64) x) (gP (eI .i64) x) = True := Zxo Zap x
theorem Zf6 {k : Nat} (x : Option Int) : (gP (eI .i64) x).under k = true := Zf5 Zap k x
theorem Zf1 {ρ : Nat → Nat} (xs : List Int) : G.rens ρ (fl (eI .i64) xs) = fl (eI .i64) xs := Ug ρ _ (Yr Zap xs)
theorem Zfz {ρ : Nat → Nat} (x : Option Int) : (gP (eI .i64) x).ren ρ = gP (eI .i64) x := Zem ρ _ (Za6 Zap x)
theorem Zh2 {k : Nat} (xs : List Int) : G.unders k (fl (eI .i64) xs) = true := Qj _ _ (Yr Zap xs)
def Zfh (x : Zy) : List G := [.val (.int .i64 x.Kind), .val (.int .i64 x.Off), .val (.int .i64 x.Data), .val (.int .i64 x.Ptrs), .val (.int .i64 x.Code), .val (.int .i64 x.Count), .val (.int .i64 x.Segment), .val (.bool x.Double)]
def Zba (x : Ze) : List G := [.sl x.words.length (fl (eI .u64) x.words), .val (.int .i64 x.next)]
theorem Vf : ∀ x, G.pures ((eL (eI .u64)) x) = true := fun x => by simp [eI, eB, eS, eL, eP, G.pures, G.pure, Yr, Za6, Uf, Xr, Zap, Yu]
theorem Zdg {O O' : Objs} {n : Nat} (xs : List (List Int)) : wkl O O' n (fl (eL (eI .u64)) xs) (fl (eL (eI .u64)) xs) := Zh9 (Yr Vf xs)
theorem Zdf {O O' : Objs} {n : Nat} (xs : List (List Int)) (b b' : List G) : wkl O O' n (fl (eL (eI .u64)) xs ++ b) (fl (eL (eI .u64)) xs ++ b') = wkl O O' n b b' := Zf8 b b' _ (Yr Vf xs)
theorem Zc8 (xs : List (List Int)) : (fl (eL (eI .u64)) xs).length = xs.length * 1 := K2 (f := (eL (eI .u64))) (k := 1) (fun _ => rfl) xs
theorem Zdd (xs : List (List Int)) : (fl (eL (eI .u64)) xs).all G.one = true := Zbz (fun x => by simp [eI, eB, eS, eL, eP, Zgg, G.one, Value.oneCell']) xs
theorem Zdh {O O' : Objs} {n : Nat} (x : Option (List Int)) : wk O O' n (gP (eL (eI .u64)) x) (gP (eL (eI .u64)) x) = True := Zxo Vf x
theorem Zcj {k : Nat} (x : Option (List Int)) : (gP (eL (eI .u64)) x).under k = true := Zf5 Vf k x
theorem Zcf {ρ : Nat → Nat} (xs : List (List Int)) : G.rens ρ (fl (eL (eI .u64)) xs) = fl (eL (eI .u64)) xs := Ug ρ _ (Yr Vf xs)
theorem Zce {ρ : Nat → Nat} (x : Option (List Int)) : (gP (eL (eI .u64)) x).ren ρ = gP (eL (eI .u64)) x := Zem ρ _ (Za6 Vf x)
theorem Zde {k : Nat} (xs : List (List Int)) : G.unders k (fl (eL (eI .u64)) xs) = true := Qj _ _ (Yr Vf xs)
def Zl (x : Zj) : List G := [.sl x.segments.length (fl (eL (eI .u64)) x.segments), .val (.int .i64 x.size), .val (.int .i64 x.left)]
theorem X5 : ∀ x, G.pures (Zl x) = true := fun x => by simp [eI, eB, eS, eL, eP, G.pures, G.pure, Yr, Za6, Zl, Uf, Xr, Zap, Vf, Yu]
theorem V7 {O O' : Objs} {n : Nat} (xs : List Zj) : wkl O O' n (fl Zl xs) (fl Zl xs) := Zh9 (Yr X5 xs)
theorem V6 {O O' : Objs} {n : Nat} (xs : List Zj) (b b' : List G) : wkl O O' n (fl Zl xs ++ b) (fl Zl xs ++ b') = wkl O O' n b b' := Zf8 b b' _ (Yr X5 xs)
theorem V1 (xs : List Zj) : (fl Zl xs).length = xs.length * 3 := K2 (f := Zl) (k := 3) (fun _ => rfl) xs
theorem V4 (xs : List Zj) : (fl Zl xs).all G.one = true := Zbz (fun x => by simp [eI, eB, eS, eL, eP, Zgg, G.one, Value.oneCell', Zl]) xs
theorem V8 {O O' : Objs} {n : Nat} (x : Option Zj) : wk O O' n (gP Zl x) (gP Zl x) = True := Zxo X5 x
theorem Vp {k : Nat} (x : Option Zj) : (gP Zl x).under k = true := Zf5 X5 k x
theorem Vn {ρ : Nat → Nat} (xs : List Zj) : G.rens ρ (fl Zl xs) = fl Zl xs := Ug ρ _ (Yr X5 xs)
theorem Vm {ρ : Nat → Nat} (x : Option Zj) : (gP Zl x).ren ρ = gP Zl x := Zem ρ _ (Za6 X5 x)
theorem V5 {k : Nat} (xs : List Zj) : G.unders k (fl Zl xs) = true := Qj _ _ (Yr X5 xs)
def Zb0 (x : Ye) : List G := [.val (.int .i64 x.Depth), .val (.int .i64 x.Weight), .val (.int .i64 x.MaxD), .val (.int .i64 x.MaxOut)]
def Zfg (x : Xf) : List G := [.val (.int .i64 x.P.Kind), .val (.int .i64 x.P.Off), .val (.int .i64 x.P.Data), .val (.int .i64 x.P.Ptrs), .val (.int .i64 x.P.Code), .val (.int .i64 x.P.Count), .val (.int .i64 x.P.Segment), .val (.bool x.P.Double), .val (.int .i64 x.Segment), .val (.int .i64 x.At)]
def Zb1 (x : Zb) : List G := [(gP Zl x.a), .val (.int .i64 x.kind), .val (.int .i64 x.segment), .val (.int .i64 x.at_), .val (.int .i64 x.words), .val (.int .i64 x.ptrs), .val (.int .i64 x.count), .val (.int .i64 x.code), .val (.int .i64 x.index)]
def Z3 (x : Zf) : List G := [.val (.int .i64 x.left)]
theorem X1 : ∀ x, G.pures (Z3 x) = true := fun x => by simp [eI, eB, eS, eL, eP, G.pures, G.pure, Yr, Za6, Z3, Uf, Xr, Zap, Vf, X5, Yu]
theorem Kz {O O' : Objs} {n : Nat} (xs : List Zf) : wkl O O' n (fl Z3 xs) (fl Z3 xs) := Zh9 (Yr X1 xs)
theorem Ky {O O' : Objs} {n : Nat} (xs : List Zf) (b b' : List G) : wkl O O' n (fl Z3 xs ++ b) (fl Z3 xs ++ b') = wkl O O' n b b' := Zf8 b b' _ (Yr X1 xs)
theorem Ku (xs : List Zf) : (fl Z3 xs).length = xs.length * 1 := K2 (f := Z3) (k := 1) (fun _ => rfl) xs
theorem Kw (xs : List Zf) : (fl Z3 xs).all G.one = true := Zbz (fun x => by simp [eI, eB, eS, eL, eP, Zgg, G.one, Value.oneCell', Z3]) xs
theorem K0 {O O' : Objs} {n : Nat} (x : Option Zf) : wk O O' n (gP Z3 x) (gP Z3 x) = True := Zxo X1 x
theorem Ki {k : Nat} (x : Option Zf) : (gP Z3 x).under k = true := Zf5 X1 k x
theorem Kh {ρ : Nat → Nat} (xs : List Zf) : G.rens ρ (fl Z3 xs) = fl Z3 xs := Ug ρ _ (Yr X1 xs)
theorem Kg {ρ : Nat → Nat} (x : Option Zf) : (gP Z3 x).ren ρ = gP Z3 x := Zem ρ _ (Za6 X1 x)
theorem Kx {k : Nat} (xs : List Zf) : G.unders k (fl Z3 xs) = true := Qj _ _ (Yr X1 xs)
def Zw (x : Zq) : List G := [.val (.int .i64 x.left)]
theorem X6 : ∀ x, G.pures (Zw x) = true := fun x => by simp [eI, eB, eS, eL, eP, G.pures, G.pure, Yr, Za6, Zw, Uf, Xr, Zap, Vf, X5, X1, Yu]
theorem J4 {O O' : Objs} {n : Nat} (xs : List Zq) : wkl O O' n (fl Zw xs) (fl Zw xs) := Zh9 (Yr X6 xs)
theorem J3 {O O' : Objs} {n : Nat} (xs : List Zq) (b b' : List G) : wkl O O' n (fl Zw xs ++ b) (fl Zw xs ++ b') = wkl O O' n b b' := Zf8 b b' _ (Yr X6 xs)
theorem Jv (xs : List Zq) : (fl Zw xs).length = xs.length * 1 := K2 (f := Zw) (k := 1) (fun _ => rfl) xs
theorem Jz (xs : List Zq) : (fl Zw xs).all G.one = true := Zbz (fun x => by simp [eI, eB, eS, eL, eP, Zgg, G.one, Value.oneCell', Zw]) xs
theorem J5 {O O' : Objs} {n : Nat} (x : Option Zq) : wk O O' n (gP Zw x) (gP Zw x) = True := Zxo X6 x
theorem Jk {k : Nat} (x : Option Zq) : (gP Zw x).under k = true := Zf5 X6 k x
theorem Ji {ρ : Nat → Nat} (xs : List Zq) : G.rens ρ (fl Zw xs) = fl Zw xs := Ug ρ _ (Yr X6 xs)
theorem Jh {ρ : Nat → Nat} (x : Option Zq) : (gP Zw x).ren ρ = gP Zw x := Zem ρ _ (Za6 X6 x)
theorem J0 {k : Nat} (xs : List Zq) : G.unders k (fl Zw xs) = true := Qj _ _ (Yr X6 xs)
def Q9 (x : Xf) : List G := [.val (.int .i64 x.P.Kind), .val (.int .i64 x.P.Off), .val (.int .i64 x.P.Data), .val (.int .i64 x.P.Ptrs), .val (.int .i64 x.P.Code), .val (.int .i64 x.P.Count), .val (.int .i64 x.P.Segment), .val (.bool x.P.Double), .val (.int .i64 x.Segment), .val (.int .i64 x.At)]
def Zk (x : Zb) : List G := [(gP Zl x.a), .val (.int .i64 x.kind), .val (.int .i64 x.segment), .val (.int .i64 x.at_), .val (.int .i64 x.words), .val (.int .i64 x.ptrs), .val (.int .i64 x.count), .val (.int .i64 x.code), .val (.int .i64 x.index)]
def Xh (x : Zy) : List G := [.val (.int .i64 x.Kind), .val (.int .i64 x.Off), .val (.int .i64 x.Data), .val (.int .i64 x.Ptrs), .val (.int .i64 x.Code), .val (.int .i64 x.Count), .val (.int .i64 x.Segment), .val (.bool x.Double)]
def Zd (x : Za) : List G := [.val (.int .i64 x.Kind), .sl x.Words.length (fl (eI .u64) x.Words), .sl x.Kids.length (fl Zc x.Kids)]
def Yy (x : Ye) : List G := [.val (.int .i64 x.Depth), .val (.int .i64 x.Weight), .val (.int .i64 x.MaxD), .val (.int .i64 x.MaxOut)]
abbrev vI (x : Int) : G := .val (.int .i64 x)
abbrev vB (x : Bool) : G := .val (.bool x)
abbrev nV : G := .val (.slice none 0 0)
abbrev sL {α : Type} (e : α → List G) (x : List α) : G := .sl x.length (fl e x)
abbrev oR {α : Type} (t s : Nat) (e : α → List G) (x : List α) : GObj := ⟨true, t, s, x.length, fl e x⟩
theorem zFn {f : FuncId} {gs : List G} {O O2 : Objs} {n n2 : Nat} {r : G} {fn : Func} {c : Code} (hc : ∀ args w, (callFunc f args).run Try.prog w = .ok (.enter f args) w) (hf : Try.prog.funcs[f]? = some fn) (h : Und O n → O n = none → (∀ k, O (n + k) = none) → W Try.prog n c (Fin Qw fn.results.toList r n O2 n2) ⟨fn.ntmps, [], Zpb 0 gs⟩ (Zr O n []) n) (hb : fn.body = some c := by exact rfl) (hn : gs.length ≤ fn.ntmps := by exact Nat.le_of_ble_eq_true rfl) (h2 : n ≤ n2 := by first | exact Nat.le_refl _ | omega) : GTo Try.prog f gs O n r O2 n2 := Zpw Zv hc hf hb hn h2 fun hU => h hU (hU.fresh _ (Nat.le_refl _)) fun k => hU.fresh _ (Nat.le_add_right _ _)
structure Hid (p : Prop) : Prop where
 get : p
structure Ar {α : Type} (a : α) : Prop where
def Ar.v {α : Type} {a : α} (_ : Ar a) : α := a
theorem zQ {A B : Prop} (l0 : List Nat) (b : B) (e : Ar l0 → Hid B → A := by intro x0 bZ; refine Zc2 x0.v (Z5 Zv [] ?_); simp only [push_cast, seval, ↓reduceIte, Zh, Ar.v, hN0, hN]; exact bZ.get) : A := e ⟨⟩ ⟨b⟩
theorem zQD {A B : Prop} (l0 : List Nat) (l1 : List (Option Bool)) (b : B) (e : Ar l0 → Ar l1 → Hid B → A := by intro x0 x1 bZ; refine Zc2 x0.v (Z5 Zv x1.v ?_); simp only [push_cast, seval, ↓reduceIte, Zh, Ar.v, hN0, hN]; (repeat (with_reducible refine And.intro (by first | (intro h0; simp only [h0, and_self]; done) | (intro h0; simp only [h0, Bool.not_false, Bool.not_true, Bool.true_and, Bool.and_true, true_and, and_true, and_self, imp_self, implies_true, bne_iff_ne, ne_eq, beq_iff_eq]; done) | (intros; simp_all; done) | exact True.intro) ?_)); exact bZ.get) : A := e ⟨⟩ ⟨⟩ ⟨b⟩
theorem Z4 {A : Prop} (l0 : List G) (e : Ar l0 → A := by intro x0; refine Ybe ?_; (try simp only [Xc, Ym]); have h := Option.some.inj h; subst h; refine Z5f (.inr rfl) hU x0.v (by omega) ?_; simp only [push_cast, seval, ↓reduceIte, Zh, Ar.v, hN0, hN]) : A := e ⟨⟩
theorem J6 {A B : Prop} (l0 : List Nat) (l1 : List Bool) (b : B) (e : Ar l0 → Ar l1 → Hid B → A := by intro x0 x1 bZ; refine Z7i ?_; (try simp only [Xc, Ym]); refine Zs9 x0.v x1.v ?_; simp only [push_cast, seval, ↓reduceIte, Ar.v]; exact bZ.get) : A := e ⟨⟩ ⟨⟩ ⟨b⟩
theorem zQd {A B : Prop} (l0 : List Nat) (l1 : List Nat) (l2 : List Bool) (b : B) (e : Ar l0 → Ar l1 → Ar l2 → Hid B → A := by intro x0 x1 x2 bZ; refine Zc2 x0.v (Z5 Zv [] ?_); simp only [push_cast, seval, ↓reduceIte, Zh, Ar.v, hN0, hN]; refine Zs9 x1.v x2.v ?_; simp only [push_cast, seval, ↓reduceIte, Ar.v]; exact bZ.get) : A := e ⟨⟩ ⟨⟩ ⟨⟩ ⟨b⟩
theorem Ziv {A B : Prop} (l0 : List (Option Bool)) {P1 : Prop} (p1 : P1) {P2 : Prop} (p2 : P2) {P3 : Prop} (p3 : P3) (b : B) (e : Ar l0 → P1 → P2 → P3 → Hid B → A := by intro x0 x1 x2 x3 bZ; refine Z5 Zv x0.v ?_; simp only [push_cast, Nat.reduceAdd, Nat.reduceSub, Nat.reduceMul, Nat.reduceLeDiff, Nat.reduceLT, Nat.reduceEqDiff, ↓reduceIte, reduceCtorEq, Int.reduceBEq, Int.reduceBNe, Nat.reduceBEq, Int.reduceLE, Int.reduceLT, Int.reduceEq, Int.reduceNe, Int.reduceNeg, Nat.reduceDiv, Nat.reduceMod, Nat.reducePow, Zh, Ar.v, x1, x2, x3, hN0, hN]; exact bZ.get) : A := e ⟨⟩ p1 p2 p3 ⟨b⟩
theorem zF3 {A B : Prop} {P0 : Prop} (p0 : P0) {P1 : Prop} (p1 : P1) {P2 : Prop} (p2 : P2) (b : B) (e : P0 → P1 → P2 → Hid B → A := by intro x0 x1 x2 bZ; simp only [push_cast, Nat.reduceAdd, Nat.reduceSub, Nat.reduceMul, Nat.reduceLeDiff, Nat.reduceLT, Nat.reduceEqDiff, ↓reduceIte, reduceCtorEq, Int.reduceBEq, Int.reduceBNe, Nat.reduceBEq, Int.reduceLE, Int.reduceLT, Int.reduceEq, Int.reduceNe, Int.reduceNeg, Nat.reduceDiv, Nat.reduceMod, Nat.reducePow, Zh, x0, x1, x2, hN0, hN]; exact bZ.get) : A := e p0 p1 p2 ⟨b⟩
theorem zD {A B : Prop} (l0 : List Nat) (l1 : List Bool) (b : B) (e : Ar l0 → Ar l1 → Hid B → A := by intro x0 x1 bZ; refine Zs9 x0.v x1.v ?_; simp only [push_cast, seval, ↓reduceIte, Ar.v]; exact bZ.get) : A := e ⟨⟩ ⟨⟩ ⟨b⟩
theorem zR {A B : Prop} (b : B) (e : Hid B → A := by intro bZ; refine Z5 Zv [] ?_; simp only [push_cast, seval, ↓reduceIte, Zh, hN0, hN]; exact bZ.get) : A := e ⟨b⟩
theorem zEn {A : Prop} {P0 : Prop} (p0 : P0) (e : P0 → A := by intro x0; have h9 := Option.some.inj x0; subst h9; refine And.intro rfl (Fit2.of (Yq hU rfl rfl ?_) (by omega)); simp only [push_cast, seval, ↓reduceIte, Zh, hN0, hN]) : A := e p0
theorem zEx {A : Prop} {P0 : Prop} (p0 : P0) (e : P0 → A := by intro x0; refine Z7h ?_; (try simp only [Xc, Ym, ↓reduceIte, Nat.reduceEqDiff]); have h9 := Option.some.inj x0; subst h9; refine And.intro (fun h => by cases h) (And.intro rfl (Fit2.of (Yq hU rfl rfl ?_) (by omega))); simp only [push_cast, seval, ↓reduceIte, Zh, hN0, hN]) : A := e p0
theorem zCd {A B : Prop} {P0 : Prop} (p0 : P0) (l1 : List Nat) (l2 : List Bool) (b : B) (e : P0 → Ar l1 → Ar l2 → Hid B → A := by intro x0 x1 x2 bZ; refine Z5 Zv [] ?_; simp only [push_cast, seval, ↓reduceIte, Zh, hN0, hN]; refine x0.then ?_; simp only [push_cast, seval, ↓reduceIte, Zh, hN0, hN]; refine Zs9 x1.v x2.v ?_; simp only [push_cast, seval, ↓reduceIte, Ar.v]; exact bZ.get) : A := e p0 ⟨⟩ ⟨⟩ ⟨b⟩
theorem zW {A B : Prop} (b : B) (e : Hid B → A := by intro bZ; refine Ybe ?_; (try simp only [Xc, Ym]); exact bZ.get) : A := e ⟨b⟩
theorem zEy {A : Prop} {P0 : Prop} (p0 : P0) (e : P0 → A := by intro x0; have h9 := Option.some.inj x0; subst h9; refine And.intro (fun h => by cases h) (And.intro rfl (Fit2.of (Yq hU rfl rfl ?_) (by omega))); simp only [push_cast, seval, ↓reduceIte, Zh, hN0, hN]) : A := e p0
theorem Z3o {A : Prop} (l0 : List G) (e : Ar l0 → A := by intro x0; have h := Option.some.inj h; subst h; refine Z5f (.inr rfl) hU x0.v (by omega) ?_; simp only [push_cast, seval, ↓reduceIte, Zh, Ar.v, hN0, hN]) : A := e ⟨⟩
theorem Zs7 {A B : Prop} (l0 : List (Option Bool)) {P1 : Prop} (p1 : P1) {P2 : Prop} (p2 : P2) {P3 : Prop} (p3 : P3) (b : B) (e : Ar l0 → P1 → P2 → P3 → Hid B → A := by intro x0 x1 x2 x3 bZ; refine Z5 Zv x0.v ?_; simp only [push_cast, seval, ↓reduceIte, Zh, Ar.v, x1, x2, x3, hN0, hN]; exact bZ.get) : A := e ⟨⟩ p1 p2 p3 ⟨b⟩
theorem zDs {A B : Prop} (l0 : List Nat) (l1 : List Bool) (b : B) (e : Ar l0 → Ar l1 → Hid B → A := by intro x0 x1 bZ; refine Zs9 x0.v x1.v ?_; simp only [push_cast, seval, ↓reduceIte, Ar.v]; refine Zg ?_; exact bZ.get) : A := e ⟨⟩ ⟨⟩ ⟨b⟩
theorem K9 {A B : Prop} (l0 : List (Option Bool)) {P1 : Prop} (p1 : P1) (b : B) (e : Ar l0 → P1 → Hid B → A := by intro x0 x1 bZ; refine Z5 Zv x0.v ?_; simp only [push_cast, seval, ↓reduceIte, Zh, Ar.v, x1, hN0, hN]; exact bZ.get) : A := e ⟨⟩ p1 ⟨b⟩
theorem Kp {A : Prop} {P0 : Prop} (p0 : P0) {P1 : Prop} (p1 : P1) (e : P0 → P1 → A := by intro x0 x1; have h9 := Option.some.inj x0; subst h9; refine And.intro rfl (Fit2.of (Yq hU rfl rfl ?_) (by omega)); simp only [push_cast, seval, ↓reduceIte, Zh, x1, hN0, hN]) : A := e p0 p1
theorem Jm {A B : Prop} (l0 : List (Option Bool)) {P1 : Prop} (p1 : P1) {P2 : Prop} (p2 : P2) (b : B) (e : Ar l0 → P1 → P2 → Hid B → A := by intro x0 x1 x2 bZ; refine Z5 Zv x0.v ?_; simp only [push_cast, seval, ↓reduceIte, Zh, Ar.v, x1, x2, hN0, hN]; exact bZ.get) : A := e ⟨⟩ p1 p2 ⟨b⟩
theorem zG {A B : Prop} (b : B) (e : Hid B → A := by intro bZ; (repeat (with_reducible refine And.intro (by first | (intro h0; simp only [h0, and_self]; done) | (intro h0; simp only [h0, Bool.not_false, Bool.not_true, Bool.true_and, Bool.and_true, true_and, and_true, and_self, imp_self, implies_true, bne_iff_ne, ne_eq, beq_iff_eq]; done) | (intros; simp_all; done) | exact True.intro) ?_)); exact bZ.get) : A := e ⟨b⟩
theorem zX2 {A B : Prop} {P0 : Prop} (p0 : P0) {P1 : Prop} (p1 : P1) (b : B) (e : P0 → P1 → Hid B → A := by intro x0 x1 bZ; simp only [push_cast, seval, ↓reduceIte, Zh, x0, x1, hN0, hN]; exact bZ.get) : A := e p0 p1 ⟨b⟩
theorem Z3m {A : Prop} {P0 : Prop} (p0 : P0) {P1 : Prop} (p1 : P1) {P2 : Prop} (p2 : P2) (e : P0 → P1 → P2 → A := by intro x0 x1 x2; have h9 := Option.some.inj x0; subst h9; refine And.intro rfl (Fit2.of (Yq hU rfl rfl ?_) (by omega)); simp only [push_cast, seval, ↓reduceIte, Zh, x1, x2, hN0, hN]) : A := e p0 p1 p2
theorem zRo {A B : Prop} (l0 : List (Option Bool)) (b : B) (e : Ar l0 → Hid B → A := by intro x0 bZ; refine Z5 Zv x0.v ?_; simp only [push_cast, seval, ↓reduceIte, Zh, Ar.v, hN0, hN]; exact bZ.get) : A := e ⟨⟩ ⟨b⟩
theorem zTs {A B : Prop} {P0 : Prop} (p0 : P0) (b : B) (e : P0 → Hid B → A := by intro x0 bZ; refine x0.then ?_; simp only [push_cast, seval, ↓reduceIte, Zh, hN0, hN]; exact bZ.get) : A := e p0 ⟨b⟩
theorem zX1 {A B : Prop} {P0 : Prop} (p0 : P0) (b : B) (e : P0 → Hid B → A := by intro x0 bZ; simp only [push_cast, seval, ↓reduceIte, Zh, x0, hN0, hN]; exact bZ.get) : A := e p0 ⟨b⟩
theorem Z3q {A B : Prop} (l0 : List (Option Bool)) {P1 : Prop} (p1 : P1) {P2 : Prop} (p2 : P2) {P3 : Prop} (p3 : P3) {P4 : Prop} (p4 : P4) {P5 : Prop} (p5 : P5) (b : B) (e : Ar l0 → P1 → P2 → P3 → P4 → P5 → Hid B → A := by intro x0 x1 x2 x3 x4 x5 bZ; refine Z5 Zv x0.v ?_; simp only [push_cast, Nat.reduceAdd, Nat.reduceSub, Nat.reduceMul, Nat.reduceLeDiff, Nat.reduceLT, Nat.reduceEqDiff, ↓reduceIte, reduceCtorEq, Int.reduceBEq, Int.reduceBNe, Nat.reduceBEq, Int.reduceLE, Int.reduceLT, Int.reduceEq, Int.reduceNe, Int.reduceNeg, Nat.reduceDiv, Nat.reduceMod, Nat.reducePow, Zh, Ar.v, x1, x2, x3, x4, x5, hN0, hN]; exact bZ.get) : A := e ⟨⟩ p1 p2 p3 p4 p5 ⟨b⟩
theorem zF5 {A B : Prop} {P0 : Prop} (p0 : P0) {P1 : Prop} (p1 : P1) {P2 : Prop} (p2 : P2) {P3 : Prop} (p3 : P3) {P4 : Prop} (p4 : P4) (b : B) (e : P0 → P1 → P2 → P3 → P4 → Hid B → A := by intro x0 x1 x2 x3 x4 bZ; simp only [push_cast, Nat.reduceAdd, Nat.reduceSub, Nat.reduceMul, Nat.reduceLeDiff, Nat.reduceLT, Nat.reduceEqDiff, ↓reduceIte, reduceCtorEq, Int.reduceBEq, Int.reduceBNe, Nat.reduceBEq, Int.reduceLE, Int.reduceLT, Int.reduceEq, Int.reduceNe, Int.reduceNeg, Nat.reduceDiv, Nat.reduceMod, Nat.reducePow, Zh, x0, x1, x2, x3, x4, hN0, hN]; exact bZ.get) : A := e p0 p1 p2 p3 p4 ⟨b⟩
theorem Ybo {A : Prop} {P0 : Prop} (p0 : P0) {P1 : Prop} (p1 : P1) {P2 : Prop} (p2 : P2) {P3 : Prop} (p3 : P3) {P4 : Prop} (p4 : P4) {P5 : Prop} (p5 : P5) (e : P0 → P1 → P2 → P3 → P4 → P5 → A := by intro x0 x1 x2 x3 x4 x5; have h9 := Option.some.inj x0; subst h9; refine And.intro rfl (Fit2.of (Yq hU rfl rfl ?_) (by omega)); simp only [push_cast, Nat.reduceAdd, Nat.reduceSub, Nat.reduceMul, Nat.reduceLeDiff, Nat.reduceLT, Nat.reduceEqDiff, ↓reduceIte, reduceCtorEq, Int.reduceBEq, Int.reduceBNe, Nat.reduceBEq, Int.reduceLE, Int.reduceLT, Int.reduceEq, Int.reduceNe, Int.reduceNeg, Nat.reduceDiv, Nat.reduceMod, Nat.reducePow, Zh, x1, x2, x3, x4, x5, hN0, hN]) : A := e p0 p1 p2 p3 p4 p5
theorem Z3p {A B : Prop} (l0 : List (Option Bool)) {P1 : Prop} (p1 : P1) {P2 : Prop} (p2 : P2) {P3 : Prop} (p3 : P3) {P4 : Prop} (p4 : P4) (b : B) (e : Ar l0 → P1 → P2 → P3 → P4 → Hid B → A := by intro x0 x1 x2 x3 x4 bZ; refine Z5 Zv x0.v ?_; simp only [push_cast, Nat.reduceAdd, Nat.reduceSub, Nat.reduceMul, Nat.reduceLeDiff, Nat.reduceLT, Nat.reduceEqDiff, ↓reduceIte, reduceCtorEq, Int.reduceBEq, Int.reduceBNe, Nat.reduceBEq, Int.reduceLE, Int.reduceLT, Int.reduceEq, Int.reduceNe, Int.reduceNeg, Nat.reduceDiv, Nat.reduceMod, Nat.reducePow, Zh, Ar.v, x1, x2, x3, x4, hN0, hN]; exact bZ.get) : A := e ⟨⟩ p1 p2 p3 p4 ⟨b⟩
theorem Z58 {A : Prop} {P0 : Prop} (p0 : P0) {P1 : Prop} (p1 : P1) {P2 : Prop} (p2 : P2) {P3 : Prop} (p3 : P3) {P4 : Prop} (p4 : P4) (e : P0 → P1 → P2 → P3 → P4 → A := by intro x0 x1 x2 x3 x4; have h9 := Option.some.inj x0; subst h9; refine And.intro rfl (Fit2.of (Yq hU rfl rfl ?_) (by omega)); simp only [push_cast, Nat.reduceAdd, Nat.reduceSub, Nat.reduceMul, Nat.reduceLeDiff, Nat.reduceLT, Nat.reduceEqDiff, ↓reduceIte, reduceCtorEq, Int.reduceBEq, Int.reduceBNe, Nat.reduceBEq, Int.reduceLE, Int.reduceLT, Int.reduceEq, Int.reduceNe, Int.reduceNeg, Nat.reduceDiv, Nat.reduceMod, Nat.reducePow, Zh, x1, x2, x3, x4, hN0, hN]) : A := e p0 p1 p2 p3 p4
theorem Yd0 {A B : Prop} (l0 : List Nat) {P1 : Prop} (p1 : P1) {P2 : Prop} (p2 : P2) {P3 : Prop} (p3 : P3) {P4 : Prop} (p4 : P4) (b : B) (e : Ar l0 → P1 → P2 → P3 → P4 → Hid B → A := by intro x0 x1 x2 x3 x4 bZ; refine Zc2 x0.v (Z5 Zv [] ?_); simp only [push_cast, seval, ↓reduceIte, Zh, Ar.v, x1, x2, x3, x4, hN0, hN]; exact bZ.get) : A := e ⟨⟩ p1 p2 p3 p4 ⟨b⟩
theorem zRd {A B : Prop} (l0 : List Nat) (l1 : List Bool) (b : B) (e : Ar l0 → Ar l1 → Hid B → A := by intro x0 x1 bZ; refine Z5 Zv [] ?_; simp only [push_cast, seval, ↓reduceIte, Zh, hN0, hN]; refine Zs9 x0.v x1.v ?_; simp only [push_cast, seval, ↓reduceIte, Ar.v]; exact bZ.get) : A := e ⟨⟩ ⟨⟩ ⟨b⟩
theorem zS {A B : Prop} (b : B) (e : Hid B → A := by intro bZ; simp only [push_cast, seval, ↓reduceIte, Zh, hN0, hN]; exact bZ.get) : A := e ⟨b⟩
theorem zC {A B : Prop} {P0 : Prop} (p0 : P0) (b : B) (e : P0 → Hid B → A := by intro x0 bZ; refine Z5 Zv [] ?_; simp only [push_cast, seval, ↓reduceIte, Zh, hN0, hN]; refine x0.then ?_; simp only [push_cast, seval, ↓reduceIte, Zh, hN0, hN]; exact bZ.get) : A := e p0 ⟨b⟩
theorem zK {A B : Prop} (b : B) (e : Hid B → A := by intro bZ; refine Z7i ?_; (try simp only [Xc, Ym]); exact bZ.get) : A := e ⟨b⟩
theorem zSe {A : Prop} (e : A := by simp only [push_cast, seval, ↓reduceIte, Zh, hN0, hN]) : A := e
theorem zF4 {A B : Prop} {P0 : Prop} (p0 : P0) {P1 : Prop} (p1 : P1) {P2 : Prop} (p2 : P2) {P3 : Prop} (p3 : P3) (b : B) (e : P0 → P1 → P2 → P3 → Hid B → A := by intro x0 x1 x2 x3 bZ; simp only [push_cast, Nat.reduceAdd, Nat.reduceSub, Nat.reduceMul, Nat.reduceLeDiff, Nat.reduceLT, Nat.reduceEqDiff, ↓reduceIte, reduceCtorEq, Int.reduceBEq, Int.reduceBNe, Nat.reduceBEq, Int.reduceLE, Int.reduceLT, Int.reduceEq, Int.reduceNe, Int.reduceNeg, Nat.reduceDiv, Nat.reduceMod, Nat.reducePow, Zh, x0, x1, x2, x3, hN0, hN]; exact bZ.get) : A := e p0 p1 p2 p3 ⟨b⟩
theorem zF7 {A B : Prop} {P0 : Prop} (p0 : P0) {P1 : Prop} (p1 : P1) {P2 : Prop} (p2 : P2) {P3 : Prop} (p3 : P3) {P4 : Prop} (p4 : P4) {P5 : Prop} (p5 : P5) {P6 : Prop} (p6 : P6) (b : B) (e : P0 → P1 → P2 → P3 → P4 → P5 → P6 → Hid B → A := by intro x0 x1 x2 x3 x4 x5 x6 bZ; simp only [push_cast, Nat.reduceAdd, Nat.reduceSub, Nat.reduceMul, Nat.reduceLeDiff, Nat.reduceLT, Nat.reduceEqDiff, ↓reduceIte, reduceCtorEq, Int.reduceBEq, Int.reduceBNe, Nat.reduceBEq, Int.reduceLE, Int.reduceLT, Int.reduceEq, Int.reduceNe, Int.reduceNeg, Nat.reduceDiv, Nat.reduceMod, Nat.reducePow, Zh, x0, x1, x2, x3, x4, x5, x6, hN0, hN]; exact bZ.get) : A := e p0 p1 p2 p3 p4 p5 p6 ⟨b⟩
theorem zX3 {A B : Prop} {P0 : Prop} (p0 : P0) {P1 : Prop} (p1 : P1) {P2 : Prop} (p2 : P2) (b : B) (e : P0 → P1 → P2 → Hid B → A := by intro x0 x1 x2 bZ; simp only [push_cast, seval, ↓reduceIte, Zh, x0, x1, x2, hN0, hN]; exact bZ.get) : A := e p0 p1 p2 ⟨b⟩
theorem Z42 {A : Prop} {P0 : Prop} (p0 : P0) {P1 : Prop} (p1 : P1) {P2 : Prop} (p2 : P2) (e : P0 → P1 → P2 → A := by intro x0 x1 x2; simp only [push_cast, seval, ↓reduceIte, Zh, x0, x1, x2, hN0, hN]) : A := e p0 p1 p2
theorem U3 {A B : Prop} (l0 : List Nat) {P1 : Prop} (p1 : P1) {P2 : Prop} (p2 : P2) (b : B) (e : Ar l0 → P1 → P2 → Hid B → A := by intro x0 x1 x2 bZ; refine Zc2 x0.v (Z5 Zv [] ?_); simp only [push_cast, seval, ↓reduceIte, Zh, Ar.v, x1, x2, hN0, hN]; exact bZ.get) : A := e ⟨⟩ p1 p2 ⟨b⟩
theorem Qx {A : Prop} {P0 : Prop} (p0 : P0) {P1 : Prop} (p1 : P1) (e : P0 → P1 → A := by intro x0 x1; simp only [push_cast, seval, ↓reduceIte, Zh, x0, x1, hN0, hN]) : A := e p0 p1
theorem zF6 {A B : Prop} {P0 : Prop} (p0 : P0) {P1 : Prop} (p1 : P1) {P2 : Prop} (p2 : P2) {P3 : Prop} (p3 : P3) {P4 : Prop} (p4 : P4) {P5 : Prop} (p5 : P5) (b : B) (e : P0 → P1 → P2 → P3 → P4 → P5 → Hid B → A := by intro x0 x1 x2 x3 x4 x5 bZ; simp only [push_cast, Nat.reduceAdd, Nat.reduceSub, Nat.reduceMul, Nat.reduceLeDiff, Nat.reduceLT, Nat.reduceEqDiff, ↓reduceIte, reduceCtorEq, Int.reduceBEq, Int.reduceBNe, Nat.reduceBEq, Int.reduceLE, Int.reduceLT, Int.reduceEq, Int.reduceNe, Int.reduceNeg, Nat.reduceDiv, Nat.reduceMod, Nat.reducePow, Zh, x0, x1, x2, x3, x4, x5, hN0, hN]; exact bZ.get) : A := e p0 p1 p2 p3 p4 p5 ⟨b⟩
theorem zO {A B : Prop} (b : B) (e : Hid B → A := by intro bZ; (repeat (with_reducible refine And.intro (by first | omega | exact Y1 rfl | exact Yp | exact Z6e rfl | exact Z0l rfl rfl | exact Zuw rfl | exact Z0k rfl) ?_)); exact bZ.get) : A := e ⟨b⟩
theorem zXt {A B : Prop} (b : B) (e : Hid B → A := by intro bZ; refine Z7h ?_; (try simp only [Xc, Ym, ↓reduceIte, Nat.reduceEqDiff]); exact bZ.get) : A := e ⟨b⟩
theorem Ydz {A : Prop} {P0 : Prop} (p0 : P0) {P1 : Prop} (p1 : P1) {P2 : Prop} (p2 : P2) {P3 : Prop} (p3 : P3) {P4 : Prop} (p4 : P4) {P5 : Prop} (p5 : P5) (e : P0 → P1 → P2 → P3 → P4 → P5 → A := by intro x0 x1 x2 x3 x4 x5; simp only [push_cast, Nat.reduceAdd, Nat.reduceSub, Nat.reduceMul, Nat.reduceLeDiff, Nat.reduceLT, Nat.reduceEqDiff, ↓reduceIte, reduceCtorEq, Int.reduceBEq, Int.reduceBNe, Nat.reduceBEq, Int.reduceLE, Int.reduceLT, Int.reduceEq, Int.reduceNe, Int.reduceNeg, Nat.reduceDiv, Nat.reduceMod, Nat.reducePow, Zh, x0, x1, x2, x3, x4, x5, hN0, hN]) : A := e p0 p1 p2 p3 p4 p5
theorem Yff {A : Prop} {P0 : Prop} (p0 : P0) (e : P0 → A := by intro x0; simp only [push_cast, seval, ↓reduceIte, Zh, x0, hN0, hN]) : A := e p0
theorem Z59 {A : Prop} {P0 : Prop} (p0 : P0) {P1 : Prop} (p1 : P1) {P2 : Prop} (p2 : P2) {P3 : Prop} (p3 : P3) (e : P0 → P1 → P2 → P3 → A := by intro x0 x1 x2 x3; have h9 := Option.some.inj x0; subst h9; refine And.intro rfl (Fit2.of (Yq hU rfl rfl ?_) (by omega)); simp only [push_cast, seval, ↓reduceIte, Zh, x1, x2, x3, hN0, hN]) : A := e p0 p1 p2 p3
theorem zF8 {A B : Prop} {P0 : Prop} (p0 : P0) {P1 : Prop} (p1 : P1) {P2 : Prop} (p2 : P2) {P3 : Prop} (p3 : P3) {P4 : Prop} (p4 : P4) {P5 : Prop} (p5 : P5) {P6 : Prop} (p6 : P6) {P7 : Prop} (p7 : P7) (b : B) (e : P0 → P1 → P2 → P3 → P4 → P5 → P6 → P7 → Hid B → A := by intro x0 x1 x2 x3 x4 x5 x6 x7 bZ; simp only [push_cast, Nat.reduceAdd, Nat.reduceSub, Nat.reduceMul, Nat.reduceLeDiff, Nat.reduceLT, Nat.reduceEqDiff, ↓reduceIte, reduceCtorEq, Int.reduceBEq, Int.reduceBNe, Nat.reduceBEq, Int.reduceLE, Int.reduceLT, Int.reduceEq, Int.reduceNe, Int.reduceNeg, Nat.reduceDiv, Nat.reduceMod, Nat.reducePow, Zh, x0, x1, x2, x3, x4, x5, x6, x7, hN0, hN]; exact bZ.get) : A := e p0 p1 p2 p3 p4 p5 p6 p7 ⟨b⟩
theorem Ydy {A : Prop} {P0 : Prop} (p0 : P0) {P1 : Prop} (p1 : P1) {P2 : Prop} (p2 : P2) {P3 : Prop} (p3 : P3) {P4 : Prop} (p4 : P4) {P5 : Prop} (p5 : P5) {P6 : Prop} (p6 : P6) {P7 : Prop} (p7 : P7) {P8 : Prop} (p8 : P8) (e : P0 → P1 → P2 → P3 → P4 → P5 → P6 → P7 → P8 → A := by intro x0 x1 x2 x3 x4 x5 x6 x7 x8; have h9 := Option.some.inj x0; subst h9; refine And.intro rfl (Fit2.of (Yq hU rfl rfl ?_) (by omega)); simp only [push_cast, Nat.reduceAdd, Nat.reduceSub, Nat.reduceMul, Nat.reduceLeDiff, Nat.reduceLT, Nat.reduceEqDiff, ↓reduceIte, reduceCtorEq, Int.reduceBEq, Int.reduceBNe, Nat.reduceBEq, Int.reduceLE, Int.reduceLT, Int.reduceEq, Int.reduceNe, Int.reduceNeg, Nat.reduceDiv, Nat.reduceMod, Nat.reducePow, Zh, x1, x2, x3, x4, x5, x6, x7, x8, hN0, hN]) : A := e p0 p1 p2 p3 p4 p5 p6 p7 p8
theorem zX5 {A B : Prop} {P0 : Prop} (p0 : P0) {P1 : Prop} (p1 : P1) {P2 : Prop} (p2 : P2) {P3 : Prop} (p3 : P3) {P4 : Prop} (p4 : P4) (b : B) (e : P0 → P1 → P2 → P3 → P4 → Hid B → A := by intro x0 x1 x2 x3 x4 bZ; simp only [push_cast, seval, ↓reduceIte, Zh, x0, x1, x2, x3, x4, hN0, hN]; exact bZ.get) : A := e p0 p1 p2 p3 p4 ⟨b⟩
theorem Ybp {A : Prop} {P0 : Prop} (p0 : P0) {P1 : Prop} (p1 : P1) {P2 : Prop} (p2 : P2) {P3 : Prop} (p3 : P3) {P4 : Prop} (p4 : P4) {P5 : Prop} (p5 : P5) (e : P0 → P1 → P2 → P3 → P4 → P5 → A := by intro x0 x1 x2 x3 x4 x5; have h9 := Option.some.inj x0; subst h9; refine And.intro rfl (Fit2.of (Yq hU rfl rfl ?_) (by omega)); simp only [push_cast, seval, ↓reduceIte, Zh, x1, x2, x3, x4, x5, hN0, hN]) : A := e p0 p1 p2 p3 p4 p5
theorem zX4 {A B : Prop} {P0 : Prop} (p0 : P0) {P1 : Prop} (p1 : P1) {P2 : Prop} (p2 : P2) {P3 : Prop} (p3 : P3) (b : B) (e : P0 → P1 → P2 → P3 → Hid B → A := by intro x0 x1 x2 x3 bZ; simp only [push_cast, seval, ↓reduceIte, Zh, x0, x1, x2, x3, hN0, hN]; exact bZ.get) : A := e p0 p1 p2 p3 ⟨b⟩
theorem Z3n {A : Prop} {P0 : Prop} (p0 : P0) {P1 : Prop} (p1 : P1) {P2 : Prop} (p2 : P2) {P3 : Prop} (p3 : P3) {P4 : Prop} (p4 : P4) (e : P0 → P1 → P2 → P3 → P4 → A := by intro x0 x1 x2 x3 x4; have h9 := Option.some.inj x0; subst h9; refine And.intro rfl (Fit2.of (Yq hU rfl rfl ?_) (by omega)); simp only [push_cast, seval, ↓reduceIte, Zh, x1, x2, x3, x4, hN0, hN]) : A := e p0 p1 p2 p3 p4
theorem Ydx {A : Prop} {P0 : Prop} (p0 : P0) {P1 : Prop} (p1 : P1) {P2 : Prop} (p2 : P2) {P3 : Prop} (p3 : P3) {P4 : Prop} (p4 : P4) {P5 : Prop} (p5 : P5) {P6 : Prop} (p6 : P6) {P7 : Prop} (p7 : P7) (e : P0 → P1 → P2 → P3 → P4 → P5 → P6 → P7 → A := by intro x0 x1 x2 x3 x4 x5 x6 x7; have h9 := Option.some.inj x0; subst h9; refine And.intro rfl (Fit2.of (Yq hU rfl rfl ?_) (by omega)); simp only [push_cast, Nat.reduceAdd, Nat.reduceSub, Nat.reduceMul, Nat.reduceLeDiff, Nat.reduceLT, Nat.reduceEqDiff, ↓reduceIte, reduceCtorEq, Int.reduceBEq, Int.reduceBNe, Nat.reduceBEq, Int.reduceLE, Int.reduceLT, Int.reduceEq, Int.reduceNe, Int.reduceNeg, Nat.reduceDiv, Nat.reduceMod, Nat.reducePow, Zh, x1, x2, x3, x4, x5, x6, x7, hN0, hN]) : A := e p0 p1 p2 p3 p4 p5 p6 p7
theorem Yd3 {A B : Prop} (l0 : List (Option Bool)) {P1 : Prop} (p1 : P1) {P2 : Prop} (p2 : P2) {P3 : Prop} (p3 : P3) {P4 : Prop} (p4 : P4) {P5 : Prop} (p5 : P5) {P6 : Prop} (p6 : P6) {P7 : Prop} (p7 : P7) (b : B) (e : Ar l0 → P1 → P2 → P3 → P4 → P5 → P6 → P7 → Hid B → A := by intro x0 x1 x2 x3 x4 x5 x6 x7 bZ; refine Z5 Zv x0.v ?_; simp only [push_cast, seval, ↓reduceIte, Zh, Ar.v, x1, x2, x3, x4, x5, x6, x7, hN0, hN]; exact bZ.get) : A := e ⟨⟩ p1 p2 p3 p4 p5 p6 p7 ⟨b⟩
theorem Yd1 {A B : Prop} (l0 : List (Option Bool)) {P1 : Prop} (p1 : P1) {P2 : Prop} (p2 : P2) {P3 : Prop} (p3 : P3) {P4 : Prop} (p4 : P4) {P5 : Prop} (p5 : P5) {P6 : Prop} (p6 : P6) {P7 : Prop} (p7 : P7) (b : B) (e : Ar l0 → P1 → P2 → P3 → P4 → P5 → P6 → P7 → Hid B → A := by intro x0 x1 x2 x3 x4 x5 x6 x7 bZ; refine Z5 Zv x0.v ?_; simp only [push_cast, Nat.reduceAdd, Nat.reduceSub, Nat.reduceMul, Nat.reduceLeDiff, Nat.reduceLT, Nat.reduceEqDiff, ↓reduceIte, reduceCtorEq, Int.reduceBEq, Int.reduceBNe, Nat.reduceBEq, Int.reduceLE, Int.reduceLT, Int.reduceEq, Int.reduceNe, Int.reduceNeg, Nat.reduceDiv, Nat.reduceMod, Nat.reducePow, Zh, Ar.v, x1, x2, x3, x4, x5, x6, x7, hN0, hN]; exact bZ.get) : A := e ⟨⟩ p1 p2 p3 p4 p5 p6 p7 ⟨b⟩
theorem Yfe {A B : Prop} (l0 : List Nat) {P1 : Prop} (p1 : P1) (b : B) (e : Ar l0 → P1 → Hid B → A := by intro x0 x1 bZ; refine Zc2 x0.v (Z5 Zv [] ?_); simp only [push_cast, seval, ↓reduceIte, Zh, Ar.v, x1, hN0, hN]; exact bZ.get) : A := e ⟨⟩ p1 ⟨b⟩
theorem Z3r {A B : Prop} (l0 : List (Option Bool)) {P1 : Prop} (p1 : P1) {P2 : Prop} (p2 : P2) {P3 : Prop} (p3 : P3) {P4 : Prop} (p4 : P4) (b : B) (e : Ar l0 → P1 → P2 → P3 → P4 → Hid B → A := by intro x0 x1 x2 x3 x4 bZ; refine Z5 Zv x0.v ?_; simp only [push_cast, seval, ↓reduceIte, Zh, Ar.v, x1, x2, x3, x4, hN0, hN]; exact bZ.get) : A := e ⟨⟩ p1 p2 p3 p4 ⟨b⟩
theorem Yd2 {A B : Prop} (l0 : List (Option Bool)) {P1 : Prop} (p1 : P1) {P2 : Prop} (p2 : P2) {P3 : Prop} (p3 : P3) {P4 : Prop} (p4 : P4) {P5 : Prop} (p5 : P5) {P6 : Prop} (p6 : P6) {P7 : Prop} (p7 : P7) {P8 : Prop} (p8 : P8) (b : B) (e : Ar l0 → P1 → P2 → P3 → P4 → P5 → P6 → P7 → P8 → Hid B → A := by intro x0 x1 x2 x3 x4 x5 x6 x7 x8 bZ; refine Z5 Zv x0.v ?_; simp only [push_cast, Nat.reduceAdd, Nat.reduceSub, Nat.reduceMul, Nat.reduceLeDiff, Nat.reduceLT, Nat.reduceEqDiff, ↓reduceIte, reduceCtorEq, Int.reduceBEq, Int.reduceBNe, Nat.reduceBEq, Int.reduceLE, Int.reduceLT, Int.reduceEq, Int.reduceNe, Int.reduceNeg, Nat.reduceDiv, Nat.reduceMod, Nat.reducePow, Zh, Ar.v, x1, x2, x3, x4, x5, x6, x7, x8, hN0, hN]; exact bZ.get) : A := e ⟨⟩ p1 p2 p3 p4 p5 p6 p7 p8 ⟨b⟩
theorem Ydw {A : Prop} {P0 : Prop} (p0 : P0) {P1 : Prop} (p1 : P1) {P2 : Prop} (p2 : P2) {P3 : Prop} (p3 : P3) {P4 : Prop} (p4 : P4) {P5 : Prop} (p5 : P5) (e : P0 → P1 → P2 → P3 → P4 → P5 → A := by intro x0 x1 x2 x3 x4 x5; refine And.intro rfl (Fit2.of (Yq hU rfl rfl ?_) (by omega)); simp only [push_cast, Nat.reduceAdd, Nat.reduceSub, Nat.reduceMul, Nat.reduceLeDiff, Nat.reduceLT, Nat.reduceEqDiff, ↓reduceIte, reduceCtorEq, Int.reduceBEq, Int.reduceBNe, Nat.reduceBEq, Int.reduceLE, Int.reduceLT, Int.reduceEq, Int.reduceNe, Int.reduceNeg, Nat.reduceDiv, Nat.reduceMod, Nat.reducePow, Zh, x0, x1, x2, x3, x4, x5, hN0, hN]) : A := e p0 p1 p2 p3 p4 p5
theorem Yd4 {A : Prop} {P0 : Prop} (p0 : P0) {P1 : Prop} (p1 : P1) {P2 : Prop} (p2 : P2) {P3 : Prop} (p3 : P3) (e : P0 → P1 → P2 → P3 → A := by intro x0 x1 x2 x3; simp only [push_cast, seval, ↓reduceIte, Zh, x0, x1, x2, x3, hN0, hN]) : A := e p0 p1 p2 p3
theorem Yd5 {A : Prop} {P0 : Prop} (p0 : P0) {P1 : Prop} (p1 : P1) {P2 : Prop} (p2 : P2) {P3 : Prop} (p3 : P3) {P4 : Prop} (p4 : P4) (e : P0 → P1 → P2 → P3 → P4 → A := by intro x0 x1 x2 x3 x4; simp only [push_cast, seval, ↓reduceIte, Zh, x0, x1, x2, x3, x4, hN0, hN]) : A := e p0 p1 p2 p3 p4
theorem Ybr {A B : Prop} (l0 : List (Option Bool)) {P1 : Prop} (p1 : P1) {P2 : Prop} (p2 : P2) {P3 : Prop} (p3 : P3) {P4 : Prop} (p4 : P4) {P5 : Prop} (p5 : P5) (b : B) (e : Ar l0 → P1 → P2 → P3 → P4 → P5 → Hid B → A := by intro x0 x1 x2 x3 x4 x5 bZ; refine Z5 Zv x0.v ?_; simp only [push_cast, seval, ↓reduceIte, Zh, Ar.v, x1, x2, x3, x4, x5, hN0, hN]; exact bZ.get) : A := e ⟨⟩ p1 p2 p3 p4 p5 ⟨b⟩
theorem zEf {A : Prop} (e : A := by refine And.intro rfl (Fit2.of (Yq hU rfl rfl ?_) (by omega)); simp only [push_cast, seval, ↓reduceIte, Zh, hN0, hN]) : A := e
theorem Ybs {A B : Prop} (l0 : List (Option Bool)) {P1 : Prop} (p1 : P1) {P2 : Prop} (p2 : P2) {P3 : Prop} (p3 : P3) {P4 : Prop} (p4 : P4) {P5 : Prop} (p5 : P5) {P6 : Prop} (p6 : P6) (b : B) (e : Ar l0 → P1 → P2 → P3 → P4 → P5 → P6 → Hid B → A := by intro x0 x1 x2 x3 x4 x5 x6 bZ; refine Z5 Zv x0.v ?_; simp only [push_cast, seval, ↓reduceIte, Zh, Ar.v, x1, x2, x3, x4, x5, x6, hN0, hN]; exact bZ.get) : A := e ⟨⟩ p1 p2 p3 p4 p5 p6 ⟨b⟩
theorem zX6 {A B : Prop} {P0 : Prop} (p0 : P0) {P1 : Prop} (p1 : P1) {P2 : Prop} (p2 : P2) {P3 : Prop} (p3 : P3) {P4 : Prop} (p4 : P4) {P5 : Prop} (p5 : P5) (b : B) (e : P0 → P1 → P2 → P3 → P4 → P5 → Hid B → A := by intro x0 x1 x2 x3 x4 x5 bZ; simp only [push_cast, seval, ↓reduceIte, Zh, x0, x1, x2, x3, x4, x5, hN0, hN]; exact bZ.get) : A := e p0 p1 p2 p3 p4 p5 ⟨b⟩
theorem Ybq {A : Prop} {P0 : Prop} (p0 : P0) {P1 : Prop} (p1 : P1) {P2 : Prop} (p2 : P2) {P3 : Prop} (p3 : P3) {P4 : Prop} (p4 : P4) {P5 : Prop} (p5 : P5) {P6 : Prop} (p6 : P6) (e : P0 → P1 → P2 → P3 → P4 → P5 → P6 → A := by intro x0 x1 x2 x3 x4 x5 x6; have h9 := Option.some.inj x0; subst h9; refine And.intro rfl (Fit2.of (Yq hU rfl rfl ?_) (by omega)); simp only [push_cast, seval, ↓reduceIte, Zh, x1, x2, x3, x4, x5, x6, hN0, hN]) : A := e p0 p1 p2 p3 p4 p5 p6
end Go.Proofs.Ytpfbdlcnfekdkaa
