/- Part H18 of the ghost memory: lemmas and contracts used by the proofs of this seat's laws; each theorem bears its own conditions. -/
import Derived.Test.YtmlhokaflhlhbaaH17
import Derived.WalkKit
import Derived.WalkSpells
import Derived.WalkLawsBesides
import Derived.Lib.Hide
import Derived.BigQuiet
import Derived.StillTailTactics
import Derived.Deep.RegionHeld3
import Derived.Deep.AppendLies
import Derived.Laws.CopyOwn
import Derived.Deep.DeepCutAuto
import Derived.Deep.QuietTactic
import Derived.Maps.AppendAt
import Derived.Great.BuildSlice
import Derived.Laws.StructEq
import Derived.IntWalk
import Derived.ProofKit
import Derived.OpenShut
import Derived.SizedLaws
import Derived.Deep.Slices
namespace Go.Proofs.Ytmlhokaflhlhbaa
open Go.RowKit
set_option linter.unusedVariables false
set_option linter.unusedSimpArgs false
theorem Zg4 : U8 .any = .any := rfl
theorem Zg8 (v : Value) : U8 (.val v) = .val v := rfl
theorem Zg3 (cs : List G) : U8 (.agg cs) = .agg cs := rfl
theorem Zg7 (cs : List G) : U8 (.tup cs) = .tup cs := rfl
theorem Zjl (n : Nat) (cs : List G) : U8 (.sl n cs) = .sl n cs := rfl
theorem Zji (cs : List G) (k : Nat) : U8 (.ip cs k) = .ip cs k := rfl
theorem Zg6 (i n : Nat) : U8 (.row i n) = .row i n := rfl
theorem Zjk (i a n : Nat) : U8 (.rs i a n) = .rs i a n := rfl
theorem Zjj (i n a : Nat) : U8 (.rp i n a) = .rp i n a := rfl
theorem Zg5 (i a : Nat) : U8 (.ref i a) = .ref i a := rfl
theorem Zjg (f k : Nat) (cs : List G) : U8 (.fn f k cs) = .fn f k cs := rfl
theorem Ze8 (b : Bool) (g : G) : U8 (.when b g) = g := rfl
section
variable {O : Objs} {T : Qt} {op : BinOp} {t : TypeId}
theorem Zit : Y7 O .any = True := rfl
theorem Zix (v : Value) : Y7 O (.val v) = True := rfl
theorem Zis (cs : List G) : Y7 O (.agg cs) = True := rfl
theorem Ziw (cs : List G) : Y7 O (.tup cs) = True := rfl
theorem Zlw (n : Nat) (cs : List G) : Y7 O (.sl n cs) = True := rfl
theorem Zlt (cs : List G) (k : Nat) : Y7 O (.ip cs k) = True := rfl
theorem Zlr (f k : Nat) (cs : List G) : Y7 O (.fn f k cs) = True := rfl
theorem Zgq (b : Bool) (g : G) : Y7 O (.when b g) = True := rfl
theorem Ziu (i a : Nat) : Y7 O (.ref i a) = ∃ o, O i = some o ∧ o.row = false := rfl
theorem Zlv (i a n : Nat) : Y7 O (.rs i a n) = ∃ o, O i = some o ∧ o.row = false := rfl
theorem Zlu (i k a : Nat) : Y7 O (.rp i k a) = ∃ o, O i = some o ∧ o.row = true ∧ k = o.n := rfl
theorem Ziv (i k : Nat) : Y7 O (.row i k) = ∃ o, O i = some o ∧ o.row = true ∧ k = o.n := rfl
theorem Zlg (k k' : IntKind) (a b : Int) : Zil T op t (.val (.int k a)) (.val (.int k' b)) = (Zpx op k a k' b).map fun r => (r.1, .val r.2) := rfl
theorem Zlf (a b : Bool) : Zil T op t (.val (.bool a)) (.val (.bool b)) = match Yf T t, op with
  | some .bool, .eql => some (True, .val (.bool (a == b)))
  | some .bool, .neq => some (True, .val (.bool (a != b)))
  | _, _ => none := rfl
theorem Zll (a b : ByteArray) : Zil T op t (.val (.string a)) (.val (.string b)) = match op with
  | .eql => some (True, .val (.bool (a.toList == b.toList)))
  | .neq => some (True, .val (.bool (!(a.toList == b.toList))))
  | _ => none := rfl
theorem Zlj : Zil T op t (.val (.pointer none)) (.val (.pointer none)) = match Yf T t, op with
  | some (.ptr _), .eql => some (True, .val (.bool true))
  | some (.ptr _), .neq => some (True, .val (.bool false))
  | _, _ => none := rfl
theorem Zlk (i a : Nat) : Zil T op t (.ref i a) (.val (.pointer none)) = match Yf T t, op with
  | some (.ptr _), .eql => some (True, .val (.bool false))
  | some (.ptr _), .neq => some (True, .val (.bool true))
  | _, _ => none := rfl
theorem Zlh (cs : List G) (k : Nat) : Zil T op t (.ip cs k) (.val (.pointer none)) = match Yf T t, op with
  | some (.ptr _), .eql => some (True, .val (.bool false))
  | some (.ptr _), .neq => some (True, .val (.bool true))
  | _, _ => none := rfl
theorem Zli (a : Option Addr) (l c l' c' : Nat) : Zil T op t (.val (.slice a l c)) (.val (.slice none l' c')) = match Yf T t, op with
  | some (.slice _), .eql => some (True, .val (.bool a.isNone))
  | some (.slice _), .neq => some (True, .val (.bool (!a.isNone)))
  | _, _ => none := rfl
theorem Zle (xs ys : List G) : Zil T op t (.agg xs) (.agg ys) = match T t, Zk7 T 6 t xs ys with
  | some i, some b => if i.k.isAgg = true ∧ i.eq = true then (match op with
   | .eql => some (True, .val (.bool b))
   | .neq => some (True, .val (.bool (!b)))
   | _ => none) else none
  | _, _ => none := rfl
end
theorem Zlz : G.one .any = false := rfl
theorem Zl3 (v : Value) : G.one (.val v) = v.oneCell' := rfl
theorem Zly (cs : List G) : G.one (.agg cs) = false := rfl
theorem Zl2 (cs : List G) : G.one (.tup cs) = false := rfl
theorem Zi3 (b : Bool) (g : G) : G.one (.when b g) = false := rfl
theorem Zqh (n : Nat) (cs : List G) : G.one (.sl n cs) = true := rfl
theorem Zqe (cs : List G) (k : Nat) : G.one (.ip cs k) = true := rfl
theorem Zl1 (i n : Nat) : G.one (.row i n) = true := rfl
theorem Zqg (i a n : Nat) : G.one (.rs i a n) = true := rfl
theorem Zqf (i n a : Nat) : G.one (.rp i n a) = true := rfl
theorem Zl0 (i a : Nat) : G.one (.ref i a) = true := rfl
theorem Zqd (f k : Nat) (cs : List G) : G.one (.fn f k cs) = true := rfl
theorem Zco (cs : List G) : Xm (.agg cs) = some cs := rfl
theorem Zct (v : Value) : Xm (.val v) = match v with
  | .agg vs => some (vs.toList.map .val)
  | v => if G.one (.val v) = true then some [.val v] else none := by cases v <;> rfl
theorem Zed (n : Nat) (cs : List G) : Xm (.sl n cs) = some [.sl n cs] := rfl
theorem Zea (cs : List G) (k : Nat) : Xm (.ip cs k) = some [.ip cs k] := rfl
theorem Zcr (i n : Nat) : Xm (.row i n) = some [.row i n] := rfl
theorem Zec (i a n : Nat) : Xm (.rs i a n) = some [.rs i a n] := rfl
theorem Zeb (i n a : Nat) : Xm (.rp i n a) = some [.rp i n a] := rfl
theorem Zcq (i a : Nat) : Xm (.ref i a) = some [.ref i a] := rfl
theorem Zd8 (f k : Nat) (cs : List G) : Xm (.fn f k cs) = some [.fn f k cs] := rfl
theorem Zcp : Xm .any = none := rfl
theorem Zcs (cs : List G) : Xm (.tup cs) = none := rfl
theorem Zbo (b : Bool) (g : G) : Xm (.when b g) = none := rfl
def gP {α : Type} (f : α → List G) : Option α → G
 | none => .val (.pointer none)
 | some x => .ip (f x) 0
def eP {α : Type} (f : α → List G) (x : Option α) : List G := [gP f x]
section
variable {α : Type} {f : α → List G} {T : Qt} {t e : TypeId} {O O' : Objs} {n' : Nat}
theorem Zlc : gP f none = .val (.pointer none) := rfl
theorem Zld (x : α) : gP f (some x) = .ip (f x) 0 := rfl
theorem Zjh (x : Option α) : U8 (gP f x) = gP f x := by cases x <;> rfl
theorem Zrs (x : Option α) (l : List G) : wok (gP f x :: l) = wok l := by cases x <;> rfl
theorem Zca (x : Option α) : (gP f x).one = true := by cases x <;> rfl
theorem Zd9 (x : Option α) : Xm (gP f x) = some [gP f x] := by cases x <;> rfl
theorem V0 (h : ∀ x, G.pures (f x) = true) (x : Option α) : (gP f x).pure = true := by
 cases x with
 | none => rfl
 | some x => simp only [gP, G.pure, h]
theorem Zbe (h : ∀ x, G.pures (f x) = true) (k : Nat) (x : Option α) : (gP f x).under k = true := Ze2 k _ (V0 h x)
theorem Zon (h : ∀ x, G.pures (f x) = true) (x : Option α) : wk O O' n' (gP f x) (gP f x) = True := eq_true (Zro _ (Zbe h _ x))
theorem Zls (x : Option α) : Y7 O (gP f x) = True := by cases x <;> rfl
theorem Zr5 (hk : Yf T t = some (.ptr e)) (x : Option α) : Zil T .eql t (gP f x) (.val (.pointer none)) = some (True, .val (.bool x.isNone)) := by cases x <;> simp [gP, Zil, hk]
end
theorem Zs1 {α : Type} : ∀ {l : List α} {k : Nat} {x : α}, l[k]? = some x → l.set k x = l
 | [], k, x, h => by simp at h
 | y :: l, 0, x, h => by simp at h; simp [h]
 | y :: l, k + 1, x, h => by simp only [List.set_cons_succ, Zs1 (l := l) (k := k) (by simpa using h)]
section
variable {P : Program} {w : World} {O : Objs} {m : Hands} {n : Nat}
theorem Zt4 (hM : Mem w O m n) {p : Nat} {q q' : GObj} (hp : O p = some q) (h1 : q'.row = q.row) (h2 : q'.ty = q.ty) (h3 : q'.sz = q.sz) (h4 : q'.n = q.n) (hc : ∀ vs, G.reps w O m n q.cells vs → G.reps w O m n q'.cells vs) :
  Mem w (O.upd p (some q')) m n ∧ Ext w O m n w (O.upd p (some q')) m n := by
 have hpn : p < n := by
  rcases Nat.lt_or_ge p n with h | h
  ·exact h
  rw [hM.fresh p h] at hp; cases hp
 have hold : ∀ i o', (O.upd p (some q')) i = some o' → ∃ o, O i = some o ∧ o'.row = o.row ∧ o'.n = o.n := fun i o' hi => by
  by_cases e : i = p
  ·subst e; rw [Xi] at hi; injection hi with hi; subst hi; exact ⟨q, hp, h1, h4⟩
  rw [Ke _ _ e] at hi; exact ⟨o', hi, rfl, rfl⟩
 have hrep : ∀ (gs : List G) (vs : List Value), G.reps w O m n gs vs → G.reps w (O.upd p (some q')) m n gs vs := fun gs vs h => Gg hold gs vs h (Vq gs vs h)
 refine ⟨⟨fun i hi => ?_, fun i o' hi => ?_, fun i j oi oj b hi hj => ?_⟩, ⟨rfl, rfl, rfl, Nat.le_refl _, Nat.le_refl _, fun b _ ho => ⟨rfl, fun ⟨i, o', hi, hb⟩ => ?_⟩, fun i _ o' hi => ?_⟩⟩
 ·rw [Ke _ _ (by omega)]; exact hM.fresh i hi
 ·by_cases e : i = p
  ·subst e
   rw [Xi] at hi
   injection hi with hi
   subst hi
   obtain ⟨vs, hr, hx⟩ := hM.obj i q hp
   refine ⟨vs, hrep _ _ (hc vs hr), ?_⟩
   rw [h1, h2, h3, h4]; exact hx
  rw [Ke _ _ e] at hi
  obtain ⟨vs, hr, hx⟩ := hM.obj i o' hi
  exact ⟨vs, hrep _ _ hr, hx⟩
 ·obtain ⟨o1, e1, _⟩ := hold i oi hi
  obtain ⟨o2, e2, _⟩ := hold j oj hj
  exact hM.apart i j o1 o2 b e1 e2
 ·obtain ⟨o1, e1, _⟩ := hold i o' hi
  exact ho ⟨i, o1, e1, hb⟩
 obtain ⟨o1, e1, e2, e3⟩ := hold i o' hi
 exact ⟨o1, e1, e2, Nat.le_of_eq e3.symm, fun _ => rfl⟩
theorem Zby {ba : Nat} {E : Env} {p k : Nat} {q : GObj} (t : TypeId) (sz : Nat) (hp : O p = some q) (hk : q.cells[k]? = some (.val (.slice none 0 0))) (hb : ba ≤ n) :
  Fit2 ba E O n E ((O.upd n (some ⟨true, t, sz, 0, []⟩)).upd p (some ⟨q.row, q.ty, q.sz, q.n, q.cells.set k (.row n 0)⟩)) (n + 1) := fun w m a hM hE => by
 have hpn : p ≠ n := fun e => by rw [e, hM.fresh n (Nat.le_refl _)] at hp; cases hp
 obtain ⟨h1, h2⟩ := Zo3 hM t sz
 have hp' : (O.upd n (some ⟨true, t, sz, 0, []⟩)) p = some q := by rw [Ke _ _ hpn]; exact hp
 obtain ⟨h3, h4⟩ := Zt4 (q' := ⟨q.row, q.ty, q.sz, q.n, q.cells.set k (.row n 0)⟩) h1 hp' rfl rfl rfl rfl (fun vs hr => by
  obtain ⟨v, hv, hrv⟩ := Zjc _ _ hr k _ hk
  simp only [G.rep] at hrv
  subst hrv
  have := Zsx q.cells vs k (.row n 0) (.slice none 0 0) hr (Zo4 t sz)
  rw [Zs1 hv] at this
  exact this)
 have hX := h2.trans h4
 exact ⟨_, h3, hE.ext hX, hX.base hb⟩
end
end Go.Proofs.Ytmlhokaflhlhbaa
