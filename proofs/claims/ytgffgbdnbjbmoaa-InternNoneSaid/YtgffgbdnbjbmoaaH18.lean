/- Part H18 of the ghost memory: lemmas and contracts used by the proofs of this seat's laws; each theorem bears its own conditions. -/
import Derived.Test.YtgffgbdnbjbmoaaH17
import Derived.WalkKit
import Derived.WalkSpells
import Derived.WalkLawsBesides
import Derived.Lib.Hide
import Derived.BigQuiet
import Derived.StillTailTactics
import Derived.Deep.RegionHeld3
import Derived.Deep.AppendLies
import Derived.Laws.CopyOwn
import Derived.Deep.DeepCutAuto
import Derived.Deep.QuietTactic
import Derived.Maps.AppendAt
import Derived.Great.BuildSlice
import Derived.Laws.StructEq
import Derived.ChangeKeysEq
import Derived.IntWalk
import Derived.Lib.AppendZeros
import Derived.Lib.AppendZerosOnto
import Derived.ProofKit
import Derived.OpenShut
import Derived.SizedLaws
import Derived.Deep.Slices
namespace Go.Proofs.Ytgffgbdnbjbmoaa
open Go.RowKit
set_option linter.unusedVariables false
set_option linter.unusedSimpArgs false
theorem Zh3 : V1 .any = .any := rfl
theorem Zh7 (v : Value) : V1 (.val v) = .val v := rfl
theorem Zh2 (cs : List G) : V1 (.agg cs) = .agg cs := rfl
theorem Zh6 (cs : List G) : V1 (.tup cs) = .tup cs := rfl
theorem Zla (n : Nat) (cs : List G) : V1 (.sl n cs) = .sl n cs := rfl
theorem Zk6 (cs : List G) (k : Nat) : V1 (.ip cs k) = .ip cs k := rfl
theorem Zh5 (i n : Nat) : V1 (.row i n) = .row i n := rfl
theorem Zk9 (i a n : Nat) : V1 (.rs i a n) = .rs i a n := rfl
theorem Zk8 (i n a : Nat) : V1 (.rp i n a) = .rp i n a := rfl
theorem Zk7 (i n a k : Nat) : V1 (.rl i n a k) = .rl i n a k := rfl
theorem Zh4 (i a : Nat) : V1 (.ref i a) = .ref i a := rfl
theorem Zk4 (f k : Nat) (cs : List G) : V1 (.fn f k cs) = .fn f k cs := rfl
theorem Zgg (b : Bool) (g : G) : V1 (.when b g) = g := rfl
section
variable {O : Objs} {T : Qa} {op : BinOp} {t : TypeId}
theorem Zke : Yp O .any = True := rfl
theorem Zki (v : Value) : Yp O (.val v) = True := rfl
theorem Zkd (cs : List G) : Yp O (.agg cs) = True := rfl
theorem Zkh (cs : List G) : Yp O (.tup cs) = True := rfl
theorem Zn0 (n : Nat) (cs : List G) : Yp O (.sl n cs) = True := rfl
theorem Znw (cs : List G) (k : Nat) : Yp O (.ip cs k) = True := rfl
theorem Znu (f k : Nat) (cs : List G) : Yp O (.fn f k cs) = True := rfl
theorem Zhq (b : Bool) (g : G) : Yp O (.when b g) = True := rfl
theorem Zkf (i a : Nat) : Yp O (.ref i a) = ∃ o, O i = some o ∧ o.row = false := rfl
theorem Znz (i a n : Nat) : Yp O (.rs i a n) = ∃ o, O i = some o ∧ o.row = false := rfl
theorem Zny (i k a : Nat) : Yp O (.rp i k a) = ∃ o, O i = some o ∧ o.row = true ∧ k = o.n := rfl
theorem Znx (i k a l : Nat) : Yp O (.rl i k a l) = True := rfl
theorem Zkg (i k : Nat) : Yp O (.row i k) = ∃ o, O i = some o ∧ o.row = true ∧ k = o.n := rfl
theorem Zm5 (k k' : IntKind) (a b : Int) : Zgy T op t (.val (.int k a)) (.val (.int k' b)) = (Zqr op k a k' b).map fun r => (r.1, .val r.2) := rfl
theorem Zm4 (a b : Bool) : Zgy T op t (.val (.bool a)) (.val (.bool b)) = match Zv T t, op with
  | some .bool, .eql => some (True, .val (.bool (a == b)))
  | some .bool, .neq => some (True, .val (.bool (a != b)))
  | _, _ => none := rfl
theorem Zna (a b : ByteArray) : Zgy T op t (.val (.string a)) (.val (.string b)) = match op with
  | .eql => some (True, .val (.bool (a.toList == b.toList)))
  | .neq => some (True, .val (.bool (!(a.toList == b.toList))))
  | _ => none := rfl
theorem Zm8 : Zgy T op t (.val (.pointer none)) (.val (.pointer none)) = match Zv T t, op with
  | some (.ptr _), .eql => some (True, .val (.bool true))
  | some (.ptr _), .neq => some (True, .val (.bool false))
  | _, _ => none := rfl
theorem Zm9 (i a : Nat) : Zgy T op t (.ref i a) (.val (.pointer none)) = match Zv T t, op with
  | some (.ptr _), .eql => some (True, .val (.bool false))
  | some (.ptr _), .neq => some (True, .val (.bool true))
  | _, _ => none := rfl
theorem Zm6 (cs : List G) (k : Nat) : Zgy T op t (.ip cs k) (.val (.pointer none)) = match Zv T t, op with
  | some (.ptr _), .eql => some (True, .val (.bool false))
  | some (.ptr _), .neq => some (True, .val (.bool true))
  | _, _ => none := rfl
theorem Zm7 (a : Option Addr) (l c l' c' : Nat) : Zgy T op t (.val (.slice a l c)) (.val (.slice none l' c')) = match Zv T t, op with
  | some (.slice _), .eql => some (True, .val (.bool a.isNone))
  | some (.slice _), .neq => some (True, .val (.bool (!a.isNone)))
  | _, _ => none := rfl
theorem Zm3 (xs ys : List G) : Zgy T op t (.agg xs) (.agg ys) = match T t, Zj0 T 6 t xs ys with
  | some i, some b => if i.k.isAgg = true ∧ i.eq = true then (match op with
   | .eql => some (True, .val (.bool b))
   | .neq => some (True, .val (.bool (!b)))
   | _ => none) else none
  | _, _ => none := rfl
end
theorem Zn9 : G.one .any = false := rfl
theorem Zod (v : Value) : G.one (.val v) = v.oneCell' := rfl
theorem Zn8 (cs : List G) : G.one (.agg cs) = false := rfl
theorem Zoc (cs : List G) : G.one (.tup cs) = false := rfl
theorem Zko (b : Bool) (g : G) : G.one (.when b g) = false := rfl
theorem Zsh (n : Nat) (cs : List G) : G.one (.sl n cs) = true := rfl
theorem Zsd (cs : List G) (k : Nat) : G.one (.ip cs k) = true := rfl
theorem Zob (i n : Nat) : G.one (.row i n) = true := rfl
theorem Zsg (i a n : Nat) : G.one (.rs i a n) = true := rfl
theorem Zsf (i n a : Nat) : G.one (.rp i n a) = true := rfl
theorem Zse (i n a k : Nat) : G.one (.rl i n a k) = true := rfl
theorem Zoa (i a : Nat) : G.one (.ref i a) = true := rfl
theorem Zsc (f k : Nat) (cs : List G) : G.one (.fn f k cs) = true := rfl
theorem Zdh (cs : List G) : Y5 (.agg cs) = some cs := rfl
theorem Zdm (v : Value) : Y5 (.val v) = match v with
  | .agg vs => some (vs.toList.map .val)
  | v => if G.one (.val v) = true then some [.val v] else none := by cases v <;> rfl
theorem Zfn (n : Nat) (cs : List G) : Y5 (.sl n cs) = some [.sl n cs] := rfl
theorem Zfj (cs : List G) (k : Nat) : Y5 (.ip cs k) = some [.ip cs k] := rfl
theorem Zdk (i n : Nat) : Y5 (.row i n) = some [.row i n] := rfl
theorem Zfm (i a n : Nat) : Y5 (.rs i a n) = some [.rs i a n] := rfl
theorem Zfl (i n a : Nat) : Y5 (.rp i n a) = some [.rp i n a] := rfl
theorem Zfk (i n a k : Nat) : Y5 (.rl i n a k) = some [.rl i n a k] := rfl
theorem Zdj (i a : Nat) : Y5 (.ref i a) = some [.ref i a] := rfl
theorem Zfh (f k : Nat) (cs : List G) : Y5 (.fn f k cs) = some [.fn f k cs] := rfl
theorem Zdi : Y5 .any = none := rfl
theorem Zdl (cs : List G) : Y5 (.tup cs) = none := rfl
theorem Zcu (b : Bool) (g : G) : Y5 (.when b g) = none := rfl
def gP {α : Type} (f : α → List G) : Option α → G
 | none => .val (.pointer none)
 | some x => .ip (f x) 0
def eP {α : Type} (f : α → List G) (x : Option α) : List G := [gP f x]
section
variable {α : Type} {f : α → List G} {T : Qa} {t e : TypeId} {O O' : Objs} {n' : Nat}
theorem Zm0 : gP f none = .val (.pointer none) := rfl
theorem Zm1 (x : α) : gP f (some x) = .ip (f x) 0 := rfl
theorem Zk5 (x : Option α) : V1 (gP f x) = gP f x := by cases x <;> rfl
theorem Zth (x : Option α) (l : List G) : wok (gP f x :: l) = wok l := by cases x <;> rfl
theorem U6 (x : Option α) : (gP f x).one = true := by cases x <;> rfl
theorem Zfi (x : Option α) : Y5 (gP f x) = some [gP f x] := by cases x <;> rfl
theorem Qh (h : ∀ x, G.pures (f x) = true) (x : Option α) : (gP f x).pure = true := by
 cases x with
 | none => rfl
 | some x => simp only [gP, G.pure, h]
theorem Vl (h : ∀ x, G.pures (f x) = true) (k : Nat) (x : Option α) : (gP f x).under k = true := Zc4 k _ (Qh h x)
theorem Zfe (h : ∀ x, G.pures (f x) = true) (x : Option α) : wk O O' n' (gP f x) (gP f x) = True := eq_true (Zp4 _ (Vl h _ x))
theorem Znv (x : Option α) : Yp O (gP f x) = True := by cases x <;> rfl
theorem Zif (hk : Zv T t = some (.ptr e)) (x : Option α) : Zgy T .eql t (gP f x) (.val (.pointer none)) = some (True, .val (.bool x.isNone)) := by cases x <;> simp [gP, Zgy, hk]
end
theorem Zk2 {α : Type} : ∀ {l : List α} {k : Nat} {x : α}, l[k]? = some x → l.set k x = l
 | [], k, x, h => by simp at h
 | y :: l, 0, x, h => by simp at h; simp [h]
 | y :: l, k + 1, x, h => by simp only [List.set_cons_succ, Zk2 (l := l) (k := k) (by simpa using h)]
section
variable {P : Program} {w : World} {O : Objs} {m : Hands} {n : Nat}
theorem Zsk (hM : Mem w O m n) {p : Nat} {q q' : GObj} (hp : O p = some q) (h1 : q'.row = q.row) (h2 : q'.ty = q.ty) (h3 : q'.sz = q.sz) (h4 : q'.n = q.n) (hc : ∀ vs, G.reps w O m n q.cells vs → G.reps w O m n q'.cells vs) :
  Mem w (O.upd p (some q')) m n ∧ Ext w O m n w (O.upd p (some q')) m n := by
 have hpn : p < n := by
  rcases Nat.lt_or_ge p n with h | h
  ·exact h
  rw [hM.fresh p h] at hp; cases hp
 have hold : ∀ i o', (O.upd p (some q')) i = some o' → ∃ o, O i = some o ∧ o'.row = o.row ∧ o'.n = o.n := fun i o' hi => by
  by_cases e : i = p
  ·subst e; rw [Yd] at hi; injection hi with hi; subst hi; exact ⟨q, hp, h1, h4⟩
  rw [Yx _ _ e] at hi; exact ⟨o', hi, rfl, rfl⟩
 have hrep : ∀ (gs : List G) (vs : List Value), G.reps w O m n gs vs → G.reps w (O.upd p (some q')) m n gs vs := fun gs vs h => Vi hold gs vs h (Q9 gs vs h)
 refine ⟨⟨fun i hi => ?_, fun i o' hi => ?_, fun i j oi oj b hi hj => ?_⟩, ⟨rfl, rfl, rfl, Nat.le_refl _, Nat.le_refl _, fun b _ ho => ⟨rfl, fun ⟨i, o', hi, hb⟩ => ?_⟩, fun i _ o' hi => ?_⟩⟩
 ·rw [Yx _ _ (by omega)]; exact hM.fresh i hi
 ·by_cases e : i = p
  ·subst e
   rw [Yd] at hi
   injection hi with hi
   subst hi
   obtain ⟨vs, hr, hx⟩ := hM.obj i q hp
   refine ⟨vs, hrep _ _ (hc vs hr), ?_⟩
   rw [h1, h2, h3, h4]; exact hx
  rw [Yx _ _ e] at hi
  obtain ⟨vs, hr, hx⟩ := hM.obj i o' hi
  exact ⟨vs, hrep _ _ hr, hx⟩
 ·obtain ⟨o1, e1, _⟩ := hold i oi hi
  obtain ⟨o2, e2, _⟩ := hold j oj hj
  exact hM.apart i j o1 o2 b e1 e2
 ·obtain ⟨o1, e1, _⟩ := hold i o' hi
  exact ho ⟨i, o1, e1, hb⟩
 obtain ⟨o1, e1, e2, e3⟩ := hold i o' hi
 exact ⟨o1, e1, e2, Nat.le_of_eq e3.symm, fun _ => rfl⟩
theorem Zjn {ba : Nat} {E : Env} {p k : Nat} {q : GObj} (t : TypeId) (sz : Nat) (hp : O p = some q) (hk : q.cells[k]? = some (.val (.slice none 0 0))) (hb : ba ≤ n) :
  Fit2 ba E O n E ((O.upd n (some ⟨true, t, sz, 0, []⟩)).upd p (some ⟨q.row, q.ty, q.sz, q.n, q.cells.set k (.row n 0)⟩)) (n + 1) := fun w m a hM hE => by
 have hpn : p ≠ n := fun e => by rw [e, hM.fresh n (Nat.le_refl _)] at hp; cases hp
 obtain ⟨h1, h2⟩ := Zl5 hM t sz
 have hp' : (O.upd n (some ⟨true, t, sz, 0, []⟩)) p = some q := by rw [Yx _ _ hpn]; exact hp
 obtain ⟨h3, h4⟩ := Zsk (q' := ⟨q.row, q.ty, q.sz, q.n, q.cells.set k (.row n 0)⟩) h1 hp' rfl rfl rfl rfl (fun vs hr => by
  obtain ⟨v, hv, hrv⟩ := Zex _ _ hr k _ hk
  simp only [G.rep] at hrv
  subst hrv
  have := Zkx q.cells vs k (.row n 0) (.slice none 0 0) hr (Zl6 t sz)
  rw [Zk2 hv] at this
  exact this)
 have hX := h2.trans h4
 exact ⟨_, h3, hE.ext hX, hX.base hb⟩
end
end Go.Proofs.Ytgffgbdnbjbmoaa
