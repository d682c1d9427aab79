/- Part H18 of the ghost memory: lemmas and contracts used by the proofs of this seat's laws; each theorem bears its own conditions. -/
import Derived.Test.YtmlhokaflhlhbaaH17
import Derived.WalkKit
import Derived.WalkSpells
import Derived.WalkLawsBesides
import Derived.Lib.Hide
import Derived.BigQuiet
import Derived.StillTailTactics
import Derived.Deep.RegionHeld3
import Derived.Deep.AppendLies
import Derived.Laws.CopyOwn
import Derived.Deep.DeepCutAuto
import Derived.Deep.QuietTactic
import Derived.Maps.AppendAt
import Derived.Great.BuildSlice
import Derived.Laws.StructEq
import Derived.IntWalk
import Derived.ProofKit
import Derived.OpenShut
import Derived.SizedLaws
import Derived.Deep.Slices
namespace Go.Proofs.Ytmlhokaflhlhbaa
open Go.RowKit
set_option linter.unusedVariables false
set_option linter.unusedSimpArgs false
theorem Zdi : Vw .any = .any := rfl
theorem Zdn (v : Value) : Vw (.val v) = .val v := rfl
theorem Zdh (cs : List G) : Vw (.agg cs) = .agg cs := rfl
theorem Zdm (cs : List G) : Vw (.tup cs) = .tup cs := rfl
theorem Zfq (n : Nat) (cs : List G) : Vw (.sl n cs) = .sl n cs := rfl
theorem Zfn (cs : List G) (k : Nat) : Vw (.ip cs k) = .ip cs k := rfl
theorem Zdl (i n : Nat) : Vw (.row i n) = .row i n := rfl
theorem Zfp (i a n : Nat) : Vw (.rs i a n) = .rs i a n := rfl
theorem Zfo (i n a : Nat) : Vw (.rp i n a) = .rp i n a := rfl
theorem Zdj (i a : Nat) : Vw (.ref i a) = .ref i a := rfl
theorem Zfl (f k : Nat) (cs : List G) : Vw (.fn f k cs) = .fn f k cs := rfl
theorem Zbu (b : Bool) (g : G) : Vw (.when b g) = g := rfl
section
variable {O : Objs} {T : Qi} {op : BinOp} {t : TypeId}
theorem Zey : Yw O .any = True := rfl
theorem Ze2 (v : Value) : Yw O (.val v) = True := rfl
theorem Zex (cs : List G) : Yw O (.agg cs) = True := rfl
theorem Ze1 (cs : List G) : Yw O (.tup cs) = True := rfl
theorem Zh9 (n : Nat) (cs : List G) : Yw O (.sl n cs) = True := rfl
theorem Zh6 (cs : List G) (k : Nat) : Yw O (.ip cs k) = True := rfl
theorem Zh4 (f k : Nat) (cs : List G) : Yw O (.fn f k cs) = True := rfl
theorem Zc4 (b : Bool) (g : G) : Yw O (.when b g) = True := rfl
theorem Zez (i a : Nat) : Yw O (.ref i a) = ∃ o, O i = some o ∧ o.row = false := rfl
theorem Zh8 (i a n : Nat) : Yw O (.rs i a n) = ∃ o, O i = some o ∧ o.row = false := rfl
theorem Zh7 (i k a : Nat) : Yw O (.rp i k a) = ∃ o, O i = some o ∧ o.row = true ∧ k = o.n := rfl
theorem Ze0 (i k : Nat) : Yw O (.row i k) = ∃ o, O i = some o ∧ o.row = true ∧ k = o.n := rfl
theorem Zhp (k k' : IntKind) (a b : Int) : Zhm T op t (.val (.int k a)) (.val (.int k' b)) = (Znf op k a k' b).map fun r => (r.1, .val r.2) := rfl
theorem Zho (a b : Bool) : Zhm T op t (.val (.bool a)) (.val (.bool b)) = match Yb T t, op with
  | some .bool, .eql => some (True, .val (.bool (a == b)))
  | some .bool, .neq => some (True, .val (.bool (a != b)))
  | _, _ => none := rfl
theorem Zhu (a b : ByteArray) : Zhm T op t (.val (.string a)) (.val (.string b)) = match op with
  | .eql => some (True, .val (.bool (a.toList == b.toList)))
  | .neq => some (True, .val (.bool (!(a.toList == b.toList))))
  | _ => none := rfl
theorem Zhs : Zhm T op t (.val (.pointer none)) (.val (.pointer none)) = match Yb T t, op with
  | some (.ptr _), .eql => some (True, .val (.bool true))
  | some (.ptr _), .neq => some (True, .val (.bool false))
  | _, _ => none := rfl
theorem Zht (i a : Nat) : Zhm T op t (.ref i a) (.val (.pointer none)) = match Yb T t, op with
  | some (.ptr _), .eql => some (True, .val (.bool false))
  | some (.ptr _), .neq => some (True, .val (.bool true))
  | _, _ => none := rfl
theorem Zhq (cs : List G) (k : Nat) : Zhm T op t (.ip cs k) (.val (.pointer none)) = match Yb T t, op with
  | some (.ptr _), .eql => some (True, .val (.bool false))
  | some (.ptr _), .neq => some (True, .val (.bool true))
  | _, _ => none := rfl
theorem Zhr (a : Option Addr) (l c l' c' : Nat) : Zhm T op t (.val (.slice a l c)) (.val (.slice none l' c')) = match Yb T t, op with
  | some (.slice _), .eql => some (True, .val (.bool a.isNone))
  | some (.slice _), .neq => some (True, .val (.bool (!a.isNone)))
  | _, _ => none := rfl
theorem Zhn (xs ys : List G) : Zhm T op t (.agg xs) (.agg ys) = match T t, Zj9 T 6 t xs ys with
  | some i, some b => if i.k.isAgg = true ∧ i.eq = true then (match op with
   | .eql => some (True, .val (.bool b))
   | .neq => some (True, .val (.bool (!b)))
   | _ => none) else none
  | _, _ => none := rfl
end
theorem Zif : G.one .any = false := rfl
theorem Zij (v : Value) : G.one (.val v) = v.oneCell' := rfl
theorem Zie (cs : List G) : G.one (.agg cs) = false := rfl
theorem Zii (cs : List G) : G.one (.tup cs) = false := rfl
theorem Ze8 (b : Bool) (g : G) : G.one (.when b g) = false := rfl
theorem Zl3 (n : Nat) (cs : List G) : G.one (.sl n cs) = true := rfl
theorem Zl0 (cs : List G) (k : Nat) : G.one (.ip cs k) = true := rfl
theorem Zih (i n : Nat) : G.one (.row i n) = true := rfl
theorem Zl2 (i a n : Nat) : G.one (.rs i a n) = true := rfl
theorem Zl1 (i n a : Nat) : G.one (.rp i n a) = true := rfl
theorem Zig (i a : Nat) : G.one (.ref i a) = true := rfl
theorem Zlz (f k : Nat) (cs : List G) : G.one (.fn f k cs) = true := rfl
theorem Gf (cs : List G) : Y7 (.agg cs) = some cs := rfl
theorem Gk (v : Value) : Y7 (.val v) = match v with
  | .agg vs => some (vs.toList.map .val)
  | v => if G.one (.val v) = true then some [.val v] else none := by cases v <;> rfl
theorem Za6 (n : Nat) (cs : List G) : Y7 (.sl n cs) = some [.sl n cs] := rfl
theorem Za3 (cs : List G) (k : Nat) : Y7 (.ip cs k) = some [.ip cs k] := rfl
theorem Gi (i n : Nat) : Y7 (.row i n) = some [.row i n] := rfl
theorem Za5 (i a n : Nat) : Y7 (.rs i a n) = some [.rs i a n] := rfl
theorem Za4 (i n a : Nat) : Y7 (.rp i n a) = some [.rp i n a] := rfl
theorem Gh (i a : Nat) : Y7 (.ref i a) = some [.ref i a] := rfl
theorem Za1 (f k : Nat) (cs : List G) : Y7 (.fn f k cs) = some [.fn f k cs] := rfl
theorem Gg : Y7 .any = none := rfl
theorem Gj (cs : List G) : Y7 (.tup cs) = none := rfl
theorem Ui (b : Bool) (g : G) : Y7 (.when b g) = none := rfl
def gP {α : Type} (f : α → List G) : Option α → G
 | none => .val (.pointer none)
 | some x => .ip (f x) 0
def eP {α : Type} (f : α → List G) (x : Option α) : List G := [gP f x]
section
variable {α : Type} {f : α → List G} {T : Qi} {t e : TypeId} {O O' : Objs} {n' : Nat}
theorem Zhk : gP f none = .val (.pointer none) := rfl
theorem Zhl (x : α) : gP f (some x) = .ip (f x) 0 := rfl
theorem Zfm (x : Option α) : Vw (gP f x) = gP f x := by cases x <;> rfl
theorem Znc (x : Option α) (l : List G) : wok (gP f x :: l) = wok l := by cases x <;> rfl
theorem Zbj (x : Option α) : (gP f x).one = true := by cases x <;> rfl
theorem Za2 (x : Option α) : Y7 (gP f x) = some [gP f x] := by cases x <;> rfl
theorem Vh (h : ∀ x, G.pures (f x) = true) (x : Option α) : (gP f x).pure = true := by
 cases x with
 | none => rfl
 | some x => simp only [gP, G.pure, h]
theorem Zbx (h : ∀ x, G.pures (f x) = true) (k : Nat) (x : Option α) : (gP f x).under k = true := Zd1 k _ (Vh h x)
theorem Zn8 (h : ∀ x, G.pures (f x) = true) (x : Option α) : wk O O' n' (gP f x) (gP f x) = True := eq_true (Zo6 _ (Zbx h _ x))
theorem Zh5 (x : Option α) : Yw O (gP f x) = True := by cases x <;> rfl
theorem Zpl (hk : Yb T t = some (.ptr e)) (x : Option α) : Zhm T .eql t (gP f x) (.val (.pointer none)) = some (True, .val (.bool x.isNone)) := by cases x <;> simp [gP, Zhm, hk]
end
theorem Zqe {α : Type} : ∀ {l : List α} {k : Nat} {x : α}, l[k]? = some x → l.set k x = l
 | [], k, x, h => by simp at h
 | y :: l, 0, x, h => by simp at h; simp [h]
 | y :: l, k + 1, x, h => by simp only [List.set_cons_succ, Zqe (l := l) (k := k) (by simpa using h)]
section
variable {P : Program} {w : World} {O : Objs} {m : Hands} {n : Nat}
theorem Zr8 (hM : Mem w O m n) {p : Nat} {q q' : GObj} (hp : O p = some q) (h1 : q'.row = q.row) (h2 : q'.ty = q.ty) (h3 : q'.sz = q.sz) (h4 : q'.n = q.n) (hc : ∀ vs, G.reps w O m n q.cells vs → G.reps w O m n q'.cells vs) :
  Mem w (O.upd p (some q')) m n ∧ Ext w O m n w (O.upd p (some q')) m n := by
 have hpn : p < n := by
  rcases Nat.lt_or_ge p n with h | h
  ·exact h
  rw [hM.fresh p h] at hp; cases hp
 have hold : ∀ i o', (O.upd p (some q')) i = some o' → ∃ o, O i = some o ∧ o'.row = o.row ∧ o'.n = o.n := fun i o' hi => by
  by_cases e : i = p
  ·subst e; rw [Xc] at hi; injection hi with hi; subst hi; exact ⟨q, hp, h1, h4⟩
  rw [Jl _ _ e] at hi; exact ⟨o', hi, rfl, rfl⟩
 have hrep : ∀ (gs : List G) (vs : List Value), G.reps w O m n gs vs → G.reps w (O.upd p (some q')) m n gs vs := fun gs vs h => V7 hold gs vs h (Kk gs vs h)
 refine ⟨⟨fun i hi => ?_, fun i o' hi => ?_, fun i j oi oj b hi hj => ?_⟩, ⟨rfl, rfl, rfl, Nat.le_refl _, Nat.le_refl _, fun b _ ho => ⟨rfl, fun ⟨i, o', hi, hb⟩ => ?_⟩, fun i _ o' hi => ?_⟩⟩
 ·rw [Jl _ _ (by omega)]; exact hM.fresh i hi
 ·by_cases e : i = p
  ·subst e
   rw [Xc] at hi
   injection hi with hi
   subst hi
   obtain ⟨vs, hr, hx⟩ := hM.obj i q hp
   refine ⟨vs, hrep _ _ (hc vs hr), ?_⟩
   rw [h1, h2, h3, h4]; exact hx
  rw [Jl _ _ e] at hi
  obtain ⟨vs, hr, hx⟩ := hM.obj i o' hi
  exact ⟨vs, hrep _ _ hr, hx⟩
 ·obtain ⟨o1, e1, _⟩ := hold i oi hi
  obtain ⟨o2, e2, _⟩ := hold j oj hj
  exact hM.apart i j o1 o2 b e1 e2
 ·obtain ⟨o1, e1, _⟩ := hold i o' hi
  exact ho ⟨i, o1, e1, hb⟩
 obtain ⟨o1, e1, e2, e3⟩ := hold i o' hi
 exact ⟨o1, e1, e2, Nat.le_of_eq e3.symm, fun _ => rfl⟩
theorem Zk9 {ba : Nat} {E : Env} {p k : Nat} {q : GObj} (t : TypeId) (sz : Nat) (hp : O p = some q) (hk : q.cells[k]? = some (.val (.slice none 0 0))) (hb : ba ≤ n) :
  Fit2 ba E O n E ((O.upd n (some ⟨true, t, sz, 0, []⟩)).upd p (some ⟨q.row, q.ty, q.sz, q.n, q.cells.set k (.row n 0)⟩)) (n + 1) := fun w m a hM hE => by
 have hpn : p ≠ n := fun e => by rw [e, hM.fresh n (Nat.le_refl _)] at hp; cases hp
 obtain ⟨h1, h2⟩ := Znt hM t sz
 have hp' : (O.upd n (some ⟨true, t, sz, 0, []⟩)) p = some q := by rw [Jl _ _ hpn]; exact hp
 obtain ⟨h3, h4⟩ := Zr8 (q' := ⟨q.row, q.ty, q.sz, q.n, q.cells.set k (.row n 0)⟩) h1 hp' rfl rfl rfl rfl (fun vs hr => by
  obtain ⟨v, hv, hrv⟩ := Zix _ _ hr k _ hk
  simp only [G.rep] at hrv
  subst hrv
  have := Zqa q.cells vs k (.row n 0) (.slice none 0 0) hr (Znu t sz)
  rw [Zqe hv] at this
  exact this)
 have hX := h2.trans h4
 exact ⟨_, h3, hE.ext hX, hX.base hb⟩
end
end Go.Proofs.Ytmlhokaflhlhbaa
