/- Part H18 of the ghost memory: lemmas and contracts used by the proofs of this seat's laws; each theorem bears its own conditions. -/
import Derived.Test.YtgpaglmhkklneaaH17
import Derived.WalkKit
import Derived.WalkSpells
import Derived.WalkLawsBesides
import Derived.Lib.Hide
import Derived.BigQuiet
import Derived.StillTailTactics
import Derived.Deep.RegionHeld3
import Derived.Deep.AppendLies
import Derived.Laws.CopyOwn
import Derived.Deep.DeepCutAuto
import Derived.Deep.QuietTactic
import Derived.Maps.AppendAt
import Derived.Great.BuildSlice
import Derived.Laws.StructEq
import Derived.ChangeKeysEq
import Derived.IntWalk
import Derived.Lib.AppendZeros
import Derived.Lib.AppendZerosOnto
import Derived.ProofKit
import Derived.OpenShut
import Derived.SizedLaws
import Derived.Deep.Slices
namespace Go.Proofs.Ytgpaglmhkklneaa
open Go.RowKit
set_option linter.unusedVariables false
set_option linter.unusedSimpArgs false
theorem Zps : Zfk .any = .any := rfl
theorem Zpw (v : Value) : Zfk (.val v) = .val v := rfl
theorem Zpr (cs : List G) : Zfk (.agg cs) = .agg cs := rfl
theorem Zpv (cs : List G) : Zfk (.tup cs) = .tup cs := rfl
theorem Zs6 (n : Nat) (cs : List G) : Zfk (.sl n cs) = .sl n cs := rfl
theorem Zs2 (cs : List G) (k : Nat) : Zfk (.ip cs k) = .ip cs k := rfl
theorem Zpu (i n : Nat) : Zfk (.row i n) = .row i n := rfl
theorem Zs5 (i a n : Nat) : Zfk (.rs i a n) = .rs i a n := rfl
theorem Zs4 (i n a : Nat) : Zfk (.rp i n a) = .rp i n a := rfl
theorem Zs3 (i n a k : Nat) : Zfk (.rl i n a k) = .rl i n a k := rfl
theorem Zpt (i a : Nat) : Zfk (.ref i a) = .ref i a := rfl
theorem Zs0 (f k : Nat) (cs : List G) : Zfk (.fn f k cs) = .fn f k cs := rfl
theorem Zm6 (b : Bool) (g : G) : Zfk (.when b g) = g := rfl
section
variable {O : Objs} {T : Vt} {op : BinOp} {t : TypeId}
theorem Zr1 : Qt O .any = True := rfl
theorem Zr5 (v : Value) : Qt O (.val v) = True := rfl
theorem Zr0 (cs : List G) : Qt O (.agg cs) = True := rfl
theorem Zr4 (cs : List G) : Qt O (.tup cs) = True := rfl
theorem Zv9 (n : Nat) (cs : List G) : Qt O (.sl n cs) = True := rfl
theorem Zv5 (cs : List G) (k : Nat) : Qt O (.ip cs k) = True := rfl
theorem Zv3 (f k : Nat) (cs : List G) : Qt O (.fn f k cs) = True := rfl
theorem Zpe (b : Bool) (g : G) : Qt O (.when b g) = True := rfl
theorem Zr2 (i a : Nat) : Qt O (.ref i a) = ∃ o, O i = some o ∧ o.row = false := rfl
theorem Zv8 (i a n : Nat) : Qt O (.rs i a n) = ∃ o, O i = some o ∧ o.row = false := rfl
theorem Zv7 (i k a : Nat) : Qt O (.rp i k a) = ∃ o, O i = some o ∧ o.row = true ∧ k = o.n := rfl
theorem Zv6 (i k a l : Nat) : Qt O (.rl i k a l) = True := rfl
theorem Zr3 (i k : Nat) : Qt O (.row i k) = ∃ o, O i = some o ∧ o.row = true ∧ k = o.n := rfl
theorem Zvz : Zkg O .any = True := rfl
theorem Zv2 (v : Value) : Zkg O (.val v) = True := rfl
theorem Zvy (cs : List G) : Zkg O (.agg cs) = True := rfl
theorem Zv1 (cs : List G) : Zkg O (.tup cs) = True := rfl
theorem Z14 (n : Nat) (cs : List G) : Zkg O (.sl n cs) = True := rfl
theorem Z1z (cs : List G) (k : Nat) : Zkg O (.ip cs k) = True := rfl
theorem Z1y (f k : Nat) (cs : List G) : Zkg O (.fn f k cs) = True := rfl
theorem Zv0 (i k : Nat) : Zkg O (.row i k) = True := rfl
theorem Z12 (i k a l : Nat) : Zkg O (.rl i k a l) = True := rfl
theorem Z13 (i a n : Nat) : Zkg O (.rs i a n) = ∃ o, O i = some o ∧ o.row = false := rfl
theorem Zvn (k k' : IntKind) (a b : Int) : Zu7 T op t (.val (.int k a)) (.val (.int k' b)) = (Z1q op k a k' b).map fun r => (r.1, .val r.2) := rfl
theorem Zvm (a b : Bool) : Zu7 T op t (.val (.bool a)) (.val (.bool b)) = match Y1 T t, op with
  | some .bool, .eql => some (True, .val (.bool (a == b)))
  | some .bool, .neq => some (True, .val (.bool (a != b)))
  | _, _ => none := rfl
theorem Zvs (a b : ByteArray) : Zu7 T op t (.val (.string a)) (.val (.string b)) = match op with
  | .eql => some (True, .val (.bool (a.toList == b.toList)))
  | .neq => some (True, .val (.bool (!(a.toList == b.toList))))
  | _ => none := rfl
theorem Zvq : Zu7 T op t (.val (.pointer none)) (.val (.pointer none)) = match Y1 T t, op with
  | some (.ptr _), .eql => some (True, .val (.bool true))
  | some (.ptr _), .neq => some (True, .val (.bool false))
  | _, _ => none := rfl
theorem Zvr (i a : Nat) : Zu7 T op t (.ref i a) (.val (.pointer none)) = match Y1 T t, op with
  | some (.ptr _), .eql => some (True, .val (.bool false))
  | some (.ptr _), .neq => some (True, .val (.bool true))
  | _, _ => none := rfl
theorem Zvo (cs : List G) (k : Nat) : Zu7 T op t (.ip cs k) (.val (.pointer none)) = match Y1 T t, op with
  | some (.ptr _), .eql => some (True, .val (.bool false))
  | some (.ptr _), .neq => some (True, .val (.bool true))
  | _, _ => none := rfl
theorem Zvp (a : Option Addr) (l c l' c' : Nat) : Zu7 T op t (.val (.slice a l c)) (.val (.slice none l' c')) = match Y1 T t, op with
  | some (.slice _), .eql => some (True, .val (.bool a.isNone))
  | some (.slice _), .neq => some (True, .val (.bool (!a.isNone)))
  | _, _ => none := rfl
theorem Zvl (xs ys : List G) : Zu7 T op t (.agg xs) (.agg ys) = match T t, Zu8 T 6 t xs ys with
  | some i, some b => if i.k.isAgg = true ∧ i.eq = true then (match op with
   | .eql => some (True, .val (.bool b))
   | .neq => some (True, .val (.bool (!b)))
   | _ => none) else none
  | _, _ => none := rfl
end
theorem Zwf : G.one .any = false := rfl
theorem Zwj (v : Value) : G.one (.val v) = v.oneCell' := rfl
theorem Zwe (cs : List G) : G.one (.agg cs) = false := rfl
theorem Zwi (cs : List G) : G.one (.tup cs) = false := rfl
theorem Zsj (b : Bool) (g : G) : G.one (.when b g) = false := rfl
theorem Z2n (n : Nat) (cs : List G) : G.one (.sl n cs) = true := rfl
theorem Z2j (cs : List G) (k : Nat) : G.one (.ip cs k) = true := rfl
theorem Zwh (i n : Nat) : G.one (.row i n) = true := rfl
theorem Z2m (i a n : Nat) : G.one (.rs i a n) = true := rfl
theorem Z2l (i n a : Nat) : G.one (.rp i n a) = true := rfl
theorem Z2k (i n a k : Nat) : G.one (.rl i n a k) = true := rfl
theorem Zwg (i a : Nat) : G.one (.ref i a) = true := rfl
theorem Z2i (f k : Nat) (cs : List G) : G.one (.fn f k cs) = true := rfl
theorem Zj7 (cs : List G) : Q6 (.agg cs) = some cs := rfl
theorem Zkc (v : Value) : Q6 (.val v) = match v with
  | .agg vs => some (vs.toList.map .val)
  | v => if G.one (.val v) = true then some [.val v] else none := by cases v <;> rfl
theorem Zl0 (n : Nat) (cs : List G) : Q6 (.sl n cs) = some [.sl n cs] := rfl
theorem Zlw (cs : List G) (k : Nat) : Q6 (.ip cs k) = some [.ip cs k] := rfl
theorem Zka (i n : Nat) : Q6 (.row i n) = some [.row i n] := rfl
theorem Zlz (i a n : Nat) : Q6 (.rs i a n) = some [.rs i a n] := rfl
theorem Zly (i n a : Nat) : Q6 (.rp i n a) = some [.rp i n a] := rfl
theorem Zlx (i n a k : Nat) : Q6 (.rl i n a k) = some [.rl i n a k] := rfl
theorem Zj9 (i a : Nat) : Q6 (.ref i a) = some [.ref i a] := rfl
theorem Zlu (f k : Nat) (cs : List G) : Q6 (.fn f k cs) = some [.fn f k cs] := rfl
theorem Zj8 : Q6 .any = none := rfl
theorem Zkb (cs : List G) : Q6 (.tup cs) = none := rfl
theorem Ziv (b : Bool) (g : G) : Q6 (.when b g) = none := rfl
def gP {α : Type} (f : α → List G) : Option α → G
 | none => .val (.pointer none)
 | some x => .ip (f x) 0
def eP {α : Type} (f : α → List G) (x : Option α) : List G := [gP f x]
section
variable {α : Type} {f : α → List G} {T : Vt} {t e : TypeId} {O O' : Objs} {n' : Nat}
theorem Zvj : gP f none = .val (.pointer none) := rfl
theorem Zvk (x : α) : gP f (some x) = .ip (f x) 0 := rfl
theorem Zs1 (x : Option α) : Zfk (gP f x) = gP f x := by cases x <;> rfl
theorem Z3v (x : Option α) (l : List G) : wok (gP f x :: l) = wok l := by cases x <;> rfl
theorem Zga (x : Option α) : (gP f x).one = true := by cases x <;> rfl
theorem Zlv (x : Option α) : Q6 (gP f x) = some [gP f x] := by cases x <;> rfl
theorem Vg (h : ∀ x, G.pures (f x) = true) (x : Option α) : (gP f x).pure = true := by
 cases x with
 | none => rfl
 | some x => simp only [gP, G.pure, h]
theorem Zdu (h : ∀ x, G.pures (f x) = true) (k : Nat) (x : Option α) : (gP f x).under k = true := Zmu k _ (Vg h x)
theorem Zop (h : ∀ x, G.pures (f x) = true) (x : Option α) : wk O O' n' (gP f x) (gP f x) = True := eq_true (Z3r _ (Zdu h _ x))
theorem Zv4 (x : Option α) : Qt O (gP f x) = True := by cases x <;> rfl
end
theorem Zsx {α : Type} : ∀ {l : List α} {k : Nat} {x : α}, l[k]? = some x → l.set k x = l
 | [], k, x, h => by simp at h
 | y :: l, 0, x, h => by simp at h; simp [h]
 | y :: l, k + 1, x, h => by simp only [List.set_cons_succ, Zsx (l := l) (k := k) (by simpa using h)]
section
variable {P : Program} {w : World} {O : Objs} {m : Hands} {n : Nat}
theorem Z59 (hM : Mem w O m n) {p : Nat} {q q' : GObj} (hp : O p = some q) (h1 : q'.row = q.row) (h2 : q'.ty = q.ty) (h3 : q'.sz = q.sz) (h4 : q'.n = q.n) (hc : ∀ vs, G.reps w O m n q.cells vs → G.reps w O m n q'.cells vs) :
  Mem w (O.upd p (some q')) m n ∧ Ext w O m n w (O.upd p (some q')) m n := by
 have hpn : p < n := by
  rcases Nat.lt_or_ge p n with h | h
  ·exact h
  rw [hM.fresh p h] at hp; cases hp
 have hold : ∀ i o', (O.upd p (some q')) i = some o' → ∃ o, O i = some o ∧ o'.row = o.row ∧ o'.n = o.n := fun i o' hi => by
  by_cases e : i = p
  ·subst e; rw [Z4] at hi; injection hi with hi; subst hi; exact ⟨q, hp, h1, h4⟩
  rw [Yp _ _ e] at hi; exact ⟨o', hi, rfl, rfl⟩
 have hrep : ∀ (gs : List G) (vs : List Value), G.reps w O m n gs vs → G.reps w (O.upd p (some q')) m n gs vs := fun gs vs h => Zeu hold gs vs h (Zc0 gs vs h)
 refine ⟨⟨fun i hi => ?_, fun i o' hi => ?_, fun i j oi oj b hi hj => ?_⟩, ⟨rfl, rfl, rfl, Nat.le_refl _, Nat.le_refl _, fun b _ ho => ⟨rfl, fun ⟨i, o', hi, hb⟩ => ?_⟩, fun i _ o' hi => ?_⟩⟩
 ·rw [Yp _ _ (by omega)]; exact hM.fresh i hi
 ·by_cases e : i = p
  ·subst e
   rw [Z4] at hi
   injection hi with hi
   subst hi
   obtain ⟨vs, hr, hx⟩ := hM.obj i q hp
   refine ⟨vs, hrep _ _ (hc vs hr), ?_⟩
   rw [h1, h2, h3, h4]; exact hx
  rw [Yp _ _ e] at hi
  obtain ⟨vs, hr, hx⟩ := hM.obj i o' hi
  exact ⟨vs, hrep _ _ hr, hx⟩
 ·obtain ⟨o1, e1, _⟩ := hold i oi hi
  obtain ⟨o2, e2, _⟩ := hold j oj hj
  exact hM.apart i j o1 o2 b e1 e2
 ·obtain ⟨o1, e1, _⟩ := hold i o' hi
  exact ho ⟨i, o1, e1, hb⟩
 obtain ⟨o1, e1, e2, e3⟩ := hold i o' hi
 exact ⟨o1, e1, e2, Nat.le_of_eq e3.symm, fun _ => rfl⟩
theorem Va {ba : Nat} {E : Env} {p k : Nat} {q : GObj} (t : TypeId) (sz : Nat) (hp : O p = some q) (hk : q.cells[k]? = some (.val (.slice none 0 0))) (hb : ba ≤ n) :
  Fit2 ba E O n E ((O.upd n (some ⟨true, t, sz, 0, []⟩)).upd p (some ⟨q.row, q.ty, q.sz, q.n, q.cells.set k (.row n 0)⟩)) (n + 1) := fun w m a hM hE => by
 have hpn : p ≠ n := fun e => by rw [e, hM.fresh n (Nat.le_refl _)] at hp; cases hp
 obtain ⟨h1, h2⟩ := Z0g hM t sz
 have hp' : (O.upd n (some ⟨true, t, sz, 0, []⟩)) p = some q := by rw [Yp _ _ hpn]; exact hp
 obtain ⟨h3, h4⟩ := Z59 (q' := ⟨q.row, q.ty, q.sz, q.n, q.cells.set k (.row n 0)⟩) h1 hp' rfl rfl rfl rfl (fun vs hr => by
  obtain ⟨v, hv, hrv⟩ := Zmy _ _ hr k _ hk
  simp only [G.rep] at hrv
  subst hrv
  have := Zsv q.cells vs k (.row n 0) (.slice none 0 0) hr (Z0h t sz)
  rw [Zsx hv] at this
  exact this)
 have hX := h2.trans h4
 exact ⟨_, h3, hE.ext hX, hX.base hb⟩
end
end Go.Proofs.Ytgpaglmhkklneaa
