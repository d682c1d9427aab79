/- Part H18 of the ghost memory: lemmas and contracts used by the proofs of this seat's laws; each theorem bears its own conditions. -/
import Derived.Test.YtmlhokaflhlhbaaH17
import Derived.WalkKit
import Derived.WalkSpells
import Derived.WalkLawsBesides
import Derived.Lib.Hide
import Derived.BigQuiet
import Derived.StillTailTactics
import Derived.Deep.RegionHeld3
import Derived.Deep.AppendLies
import Derived.Laws.CopyOwn
import Derived.Deep.DeepCutAuto
import Derived.Deep.QuietTactic
import Derived.Maps.AppendAt
import Derived.Great.BuildSlice
import Derived.Laws.StructEq
import Derived.IntWalk
import Derived.ProofKit
import Derived.OpenShut
import Derived.SizedLaws
import Derived.Deep.Slices
namespace Go.Proofs.Ytmlhokaflhlhbaa
open Go.RowKit
set_option linter.unusedVariables false
set_option linter.unusedSimpArgs false
theorem Zhh : Gh .any = .any := rfl
theorem Zhl (v : Value) : Gh (.val v) = .val v := rfl
theorem Zhg (cs : List G) : Gh (.agg cs) = .agg cs := rfl
theorem Zhk (cs : List G) : Gh (.tup cs) = .tup cs := rfl
theorem Zj0 (n : Nat) (cs : List G) : Gh (.sl n cs) = .sl n cs := rfl
theorem Zjx (cs : List G) (k : Nat) : Gh (.ip cs k) = .ip cs k := rfl
theorem Zhj (i n : Nat) : Gh (.row i n) = .row i n := rfl
theorem Zjz (i a n : Nat) : Gh (.rs i a n) = .rs i a n := rfl
theorem Zjy (i n a : Nat) : Gh (.rp i n a) = .rp i n a := rfl
theorem Zhi (i a : Nat) : Gh (.ref i a) = .ref i a := rfl
theorem Zjv (f k : Nat) (cs : List G) : Gh (.fn f k cs) = .fn f k cs := rfl
theorem Zfj (b : Bool) (g : G) : Gh (.when b g) = g := rfl
section
variable {O : Objs} {T : Qv} {op : BinOp} {t : TypeId}
theorem Zi9 : Y9 O .any = True := rfl
theorem Zjd (v : Value) : Y9 O (.val v) = True := rfl
theorem Zi8 (cs : List G) : Y9 O (.agg cs) = True := rfl
theorem Zjc (cs : List G) : Y9 O (.tup cs) = True := rfl
theorem Zmd (n : Nat) (cs : List G) : Y9 O (.sl n cs) = True := rfl
theorem Zma (cs : List G) (k : Nat) : Y9 O (.ip cs k) = True := rfl
theorem Zl8 (f k : Nat) (cs : List G) : Y9 O (.fn f k cs) = True := rfl
theorem Zg4 (b : Bool) (g : G) : Y9 O (.when b g) = True := rfl
theorem Zja (i a : Nat) : Y9 O (.ref i a) = ∃ o, O i = some o ∧ o.row = false := rfl
theorem Zmc (i a n : Nat) : Y9 O (.rs i a n) = ∃ o, O i = some o ∧ o.row = false := rfl
theorem Zmb (i k a : Nat) : Y9 O (.rp i k a) = ∃ o, O i = some o ∧ o.row = true ∧ k = o.n := rfl
theorem Zjb (i k : Nat) : Y9 O (.row i k) = ∃ o, O i = some o ∧ o.row = true ∧ k = o.n := rfl
theorem Zlx (k k' : IntKind) (a b : Int) : Zi1 T op t (.val (.int k a)) (.val (.int k' b)) = (Zqe op k a k' b).map fun r => (r.1, .val r.2) := rfl
theorem Zlw (a b : Bool) : Zi1 T op t (.val (.bool a)) (.val (.bool b)) = match Yf T t, op with
  | some .bool, .eql => some (True, .val (.bool (a == b)))
  | some .bool, .neq => some (True, .val (.bool (a != b)))
  | _, _ => none := rfl
theorem Zl2 (a b : ByteArray) : Zi1 T op t (.val (.string a)) (.val (.string b)) = match op with
  | .eql => some (True, .val (.bool (a.toList == b.toList)))
  | .neq => some (True, .val (.bool (!(a.toList == b.toList))))
  | _ => none := rfl
theorem Zl0 : Zi1 T op t (.val (.pointer none)) (.val (.pointer none)) = match Yf T t, op with
  | some (.ptr _), .eql => some (True, .val (.bool true))
  | some (.ptr _), .neq => some (True, .val (.bool false))
  | _, _ => none := rfl
theorem Zl1 (i a : Nat) : Zi1 T op t (.ref i a) (.val (.pointer none)) = match Yf T t, op with
  | some (.ptr _), .eql => some (True, .val (.bool false))
  | some (.ptr _), .neq => some (True, .val (.bool true))
  | _, _ => none := rfl
theorem Zly (cs : List G) (k : Nat) : Zi1 T op t (.ip cs k) (.val (.pointer none)) = match Yf T t, op with
  | some (.ptr _), .eql => some (True, .val (.bool false))
  | some (.ptr _), .neq => some (True, .val (.bool true))
  | _, _ => none := rfl
theorem Zlz (a : Option Addr) (l c l' c' : Nat) : Zi1 T op t (.val (.slice a l c)) (.val (.slice none l' c')) = match Yf T t, op with
  | some (.slice _), .eql => some (True, .val (.bool a.isNone))
  | some (.slice _), .neq => some (True, .val (.bool (!a.isNone)))
  | _, _ => none := rfl
theorem Zlv (xs ys : List G) : Zi1 T op t (.agg xs) (.agg ys) = match T t, Zln T 6 t xs ys with
  | some i, some b => if i.k.isAgg = true ∧ i.eq = true then (match op with
   | .eql => some (True, .val (.bool b))
   | .neq => some (True, .val (.bool (!b)))
   | _ => none) else none
  | _, _ => none := rfl
end
theorem Zmg : G.one .any = false := rfl
theorem Zmk (v : Value) : G.one (.val v) = v.oneCell' := rfl
theorem Zmf (cs : List G) : G.one (.agg cs) = false := rfl
theorem Zmj (cs : List G) : G.one (.tup cs) = false := rfl
theorem Zji (b : Bool) (g : G) : G.one (.when b g) = false := rfl
theorem Zqz (n : Nat) (cs : List G) : G.one (.sl n cs) = true := rfl
theorem Zqw (cs : List G) (k : Nat) : G.one (.ip cs k) = true := rfl
theorem Zmi (i n : Nat) : G.one (.row i n) = true := rfl
theorem Zqy (i a n : Nat) : G.one (.rs i a n) = true := rfl
theorem Zqx (i n a : Nat) : G.one (.rp i n a) = true := rfl
theorem Zmh (i a : Nat) : G.one (.ref i a) = true := rfl
theorem Zqv (f k : Nat) (cs : List G) : G.one (.fn f k cs) = true := rfl
theorem Zcy (cs : List G) : Xp (.agg cs) = some cs := rfl
theorem Zc3 (v : Value) : Xp (.val v) = match v with
  | .agg vs => some (vs.toList.map .val)
  | v => if G.one (.val v) = true then some [.val v] else none := by cases v <;> rfl
theorem Zen (n : Nat) (cs : List G) : Xp (.sl n cs) = some [.sl n cs] := rfl
theorem Zek (cs : List G) (k : Nat) : Xp (.ip cs k) = some [.ip cs k] := rfl
theorem Zc1 (i n : Nat) : Xp (.row i n) = some [.row i n] := rfl
theorem Zem (i a n : Nat) : Xp (.rs i a n) = some [.rs i a n] := rfl
theorem Zel (i n a : Nat) : Xp (.rp i n a) = some [.rp i n a] := rfl
theorem Zc0 (i a : Nat) : Xp (.ref i a) = some [.ref i a] := rfl
theorem Zei (f k : Nat) (cs : List G) : Xp (.fn f k cs) = some [.fn f k cs] := rfl
theorem Zcz : Xp .any = none := rfl
theorem Zc2 (cs : List G) : Xp (.tup cs) = none := rfl
theorem Zbz (b : Bool) (g : G) : Xp (.when b g) = none := rfl
def gP {α : Type} (f : α → List G) : Option α → G
 | none => .val (.pointer none)
 | some x => .ip (f x) 0
def eP {α : Type} (f : α → List G) (x : Option α) : List G := [gP f x]
section
variable {α : Type} {f : α → List G} {T : Qv} {t e : TypeId} {O O' : Objs} {n' : Nat}
theorem Zlt : gP f none = .val (.pointer none) := rfl
theorem Zlu (x : α) : gP f (some x) = .ip (f x) 0 := rfl
theorem Zjw (x : Option α) : Gh (gP f x) = gP f x := by cases x <;> rfl
theorem Zr7 (x : Option α) (l : List G) : wok (gP f x :: l) = wok l := by cases x <;> rfl
theorem Zck (x : Option α) : (gP f x).one = true := by cases x <;> rfl
theorem Zej (x : Option α) : Xp (gP f x) = some [gP f x] := by cases x <;> rfl
theorem V5 (h : ∀ x, G.pures (f x) = true) (x : Option α) : (gP f x).pure = true := by
 cases x with
 | none => rfl
 | some x => simp only [gP, G.pure, h]
theorem Zbo (h : ∀ x, G.pures (f x) = true) (k : Nat) (x : Option α) : (gP f x).under k = true := Zfc k _ (V5 h x)
theorem Zo3 (h : ∀ x, G.pures (f x) = true) (x : Option α) : wk O O' n' (gP f x) (gP f x) = True := eq_true (Zr3 _ (Zbo h _ x))
theorem Zl9 (x : Option α) : Y9 O (gP f x) = True := by cases x <;> rfl
theorem Zsk (hk : Yf T t = some (.ptr e)) (x : Option α) : Zi1 T .eql t (gP f x) (.val (.pointer none)) = some (True, .val (.bool x.isNone)) := by cases x <;> simp [gP, Zi1, hk]
end
theorem Zth {α : Type} : ∀ {l : List α} {k : Nat} {x : α}, l[k]? = some x → l.set k x = l
 | [], k, x, h => by simp at h
 | y :: l, 0, x, h => by simp at h; simp [h]
 | y :: l, k + 1, x, h => by simp only [List.set_cons_succ, Zth (l := l) (k := k) (by simpa using h)]
section
variable {P : Program} {w : World} {O : Objs} {m : Hands} {n : Nat}
theorem Zuh (hM : Mem w O m n) {p : Nat} {q q' : GObj} (hp : O p = some q) (h1 : q'.row = q.row) (h2 : q'.ty = q.ty) (h3 : q'.sz = q.sz) (h4 : q'.n = q.n) (hc : ∀ vs, G.reps w O m n q.cells vs → G.reps w O m n q'.cells vs) :
  Mem w (O.upd p (some q')) m n ∧ Ext w O m n w (O.upd p (some q')) m n := by
 have hpn : p < n := by
  rcases Nat.lt_or_ge p n with h | h
  ·exact h
  rw [hM.fresh p h] at hp; cases hp
 have hold : ∀ i o', (O.upd p (some q')) i = some o' → ∃ o, O i = some o ∧ o'.row = o.row ∧ o'.n = o.n := fun i o' hi => by
  by_cases e : i = p
  ·subst e; rw [Xk] at hi; injection hi with hi; subst hi; exact ⟨q, hp, h1, h4⟩
  rw [Km _ _ e] at hi; exact ⟨o', hi, rfl, rfl⟩
 have hrep : ∀ (gs : List G) (vs : List Value), G.reps w O m n gs vs → G.reps w (O.upd p (some q')) m n gs vs := fun gs vs h => Gr hold gs vs h (Vv gs vs h)
 refine ⟨⟨fun i hi => ?_, fun i o' hi => ?_, fun i j oi oj b hi hj => ?_⟩, ⟨rfl, rfl, rfl, Nat.le_refl _, Nat.le_refl _, fun b _ ho => ⟨rfl, fun ⟨i, o', hi, hb⟩ => ?_⟩, fun i _ o' hi => ?_⟩⟩
 ·rw [Km _ _ (by omega)]; exact hM.fresh i hi
 ·by_cases e : i = p
  ·subst e
   rw [Xk] at hi
   injection hi with hi
   subst hi
   obtain ⟨vs, hr, hx⟩ := hM.obj i q hp
   refine ⟨vs, hrep _ _ (hc vs hr), ?_⟩
   rw [h1, h2, h3, h4]; exact hx
  rw [Km _ _ e] at hi
  obtain ⟨vs, hr, hx⟩ := hM.obj i o' hi
  exact ⟨vs, hrep _ _ hr, hx⟩
 ·obtain ⟨o1, e1, _⟩ := hold i oi hi
  obtain ⟨o2, e2, _⟩ := hold j oj hj
  exact hM.apart i j o1 o2 b e1 e2
 ·obtain ⟨o1, e1, _⟩ := hold i o' hi
  exact ho ⟨i, o1, e1, hb⟩
 obtain ⟨o1, e1, e2, e3⟩ := hold i o' hi
 exact ⟨o1, e1, e2, Nat.le_of_eq e3.symm, fun _ => rfl⟩
theorem Zcb {ba : Nat} {E : Env} {p k : Nat} {q : GObj} (t : TypeId) (sz : Nat) (hp : O p = some q) (hk : q.cells[k]? = some (.val (.slice none 0 0))) (hb : ba ≤ n) :
  Fit2 ba E O n E ((O.upd n (some ⟨true, t, sz, 0, []⟩)).upd p (some ⟨q.row, q.ty, q.sz, q.n, q.cells.set k (.row n 0)⟩)) (n + 1) := fun w m a hM hE => by
 have hpn : p ≠ n := fun e => by rw [e, hM.fresh n (Nat.le_refl _)] at hp; cases hp
 obtain ⟨h1, h2⟩ := Zpl hM t sz
 have hp' : (O.upd n (some ⟨true, t, sz, 0, []⟩)) p = some q := by rw [Km _ _ hpn]; exact hp
 obtain ⟨h3, h4⟩ := Zuh (q' := ⟨q.row, q.ty, q.sz, q.n, q.cells.set k (.row n 0)⟩) h1 hp' rfl rfl rfl rfl (fun vs hr => by
  obtain ⟨v, hv, hrv⟩ := Zjr _ _ hr k _ hk
  simp only [G.rep] at hrv
  subst hrv
  have := Ztc q.cells vs k (.row n 0) (.slice none 0 0) hr (Zpm t sz)
  rw [Zth hv] at this
  exact this)
 have hX := h2.trans h4
 exact ⟨_, h3, hE.ext hX, hX.base hb⟩
end
end Go.Proofs.Ytmlhokaflhlhbaa
