/- Part H18 of the ghost memory: lemmas and contracts used by the proofs of this seat's laws; each theorem bears its own conditions. -/
import Derived.Test.YtmlhokaflhlhbaaH17
import Derived.WalkKit
import Derived.WalkSpells
import Derived.WalkLawsBesides
import Derived.Lib.Hide
import Derived.BigQuiet
import Derived.StillTailTactics
import Derived.Deep.RegionHeld3
import Derived.Deep.AppendLies
import Derived.Laws.CopyOwn
import Derived.Deep.DeepCutAuto
import Derived.Deep.QuietTactic
import Derived.Maps.AppendAt
import Derived.Great.BuildSlice
import Derived.Laws.StructEq
import Derived.IntWalk
import Derived.ProofKit
import Derived.OpenShut
import Derived.SizedLaws
import Derived.Deep.Slices
namespace Go.Proofs.Ytmlhokaflhlhbaa
open Go.RowKit
set_option linter.unusedVariables false
set_option linter.unusedSimpArgs false
theorem Zed : Um .any = .any := rfl
theorem Zei (v : Value) : Um (.val v) = .val v := rfl
theorem Zec (cs : List G) : Um (.agg cs) = .agg cs := rfl
theorem Zeh (cs : List G) : Um (.tup cs) = .tup cs := rfl
theorem Zgx (n : Nat) (cs : List G) : Um (.sl n cs) = .sl n cs := rfl
theorem Zgu (cs : List G) (k : Nat) : Um (.ip cs k) = .ip cs k := rfl
theorem Zeg (i n : Nat) : Um (.row i n) = .row i n := rfl
theorem Zgw (i a n : Nat) : Um (.rs i a n) = .rs i a n := rfl
theorem Zgv (i n a : Nat) : Um (.rp i n a) = .rp i n a := rfl
theorem Zee (i a : Nat) : Um (.ref i a) = .ref i a := rfl
theorem Zgs (f k : Nat) (cs : List G) : Um (.fn f k cs) = .fn f k cs := rfl
theorem Zcm (b : Bool) (g : G) : Um (.when b g) = g := rfl
section
variable {O : Objs} {T : Qy} {op : BinOp} {t : TypeId}
theorem Zf4 : Yx O .any = True := rfl
theorem Zf8 (v : Value) : Yx O (.val v) = True := rfl
theorem Zf3 (cs : List G) : Yx O (.agg cs) = True := rfl
theorem Zf7 (cs : List G) : Yx O (.tup cs) = True := rfl
theorem Zje (n : Nat) (cs : List G) : Yx O (.sl n cs) = True := rfl
theorem Zjb (cs : List G) (k : Nat) : Yx O (.ip cs k) = True := rfl
theorem Zi9 (f k : Nat) (cs : List G) : Yx O (.fn f k cs) = True := rfl
theorem Zdw (b : Bool) (g : G) : Yx O (.when b g) = True := rfl
theorem Zf5 (i a : Nat) : Yx O (.ref i a) = ∃ o, O i = some o ∧ o.row = false := rfl
theorem Zjd (i a n : Nat) : Yx O (.rs i a n) = ∃ o, O i = some o ∧ o.row = false := rfl
theorem Zjc (i k a : Nat) : Yx O (.rp i k a) = ∃ o, O i = some o ∧ o.row = true ∧ k = o.n := rfl
theorem Zf6 (i k : Nat) : Yx O (.row i k) = ∃ o, O i = some o ∧ o.row = true ∧ k = o.n := rfl
theorem Ziu (k k' : IntKind) (a b : Int) : Zir T op t (.val (.int k a)) (.val (.int k' b)) = (Zor op k a k' b).map fun r => (r.1, .val r.2) := rfl
theorem Zit (a b : Bool) : Zir T op t (.val (.bool a)) (.val (.bool b)) = match Yb T t, op with
  | some .bool, .eql => some (True, .val (.bool (a == b)))
  | some .bool, .neq => some (True, .val (.bool (a != b)))
  | _, _ => none := rfl
theorem Ziz (a b : ByteArray) : Zir T op t (.val (.string a)) (.val (.string b)) = match op with
  | .eql => some (True, .val (.bool (a.toList == b.toList)))
  | .neq => some (True, .val (.bool (!(a.toList == b.toList))))
  | _ => none := rfl
theorem Zix : Zir T op t (.val (.pointer none)) (.val (.pointer none)) = match Yb T t, op with
  | some (.ptr _), .eql => some (True, .val (.bool true))
  | some (.ptr _), .neq => some (True, .val (.bool false))
  | _, _ => none := rfl
theorem Ziy (i a : Nat) : Zir T op t (.ref i a) (.val (.pointer none)) = match Yb T t, op with
  | some (.ptr _), .eql => some (True, .val (.bool false))
  | some (.ptr _), .neq => some (True, .val (.bool true))
  | _, _ => none := rfl
theorem Ziv (cs : List G) (k : Nat) : Zir T op t (.ip cs k) (.val (.pointer none)) = match Yb T t, op with
  | some (.ptr _), .eql => some (True, .val (.bool false))
  | some (.ptr _), .neq => some (True, .val (.bool true))
  | _, _ => none := rfl
theorem Ziw (a : Option Addr) (l c l' c' : Nat) : Zir T op t (.val (.slice a l c)) (.val (.slice none l' c')) = match Yb T t, op with
  | some (.slice _), .eql => some (True, .val (.bool a.isNone))
  | some (.slice _), .neq => some (True, .val (.bool (!a.isNone)))
  | _, _ => none := rfl
theorem Zis (xs ys : List G) : Zir T op t (.agg xs) (.agg ys) = match T t, Zlf T 6 t xs ys with
  | some i, some b => if i.k.isAgg = true ∧ i.eq = true then (match op with
   | .eql => some (True, .val (.bool b))
   | .neq => some (True, .val (.bool (!b)))
   | _ => none) else none
  | _, _ => none := rfl
end
theorem Zjl : G.one .any = false := rfl
theorem Zjp (v : Value) : G.one (.val v) = v.oneCell' := rfl
theorem Zjk (cs : List G) : G.one (.agg cs) = false := rfl
theorem Zjo (cs : List G) : G.one (.tup cs) = false := rfl
theorem Zgf (b : Bool) (g : G) : G.one (.when b g) = false := rfl
theorem Znf (n : Nat) (cs : List G) : G.one (.sl n cs) = true := rfl
theorem Znc (cs : List G) (k : Nat) : G.one (.ip cs k) = true := rfl
theorem Zjn (i n : Nat) : G.one (.row i n) = true := rfl
theorem Zne (i a n : Nat) : G.one (.rs i a n) = true := rfl
theorem Znd (i n a : Nat) : G.one (.rp i n a) = true := rfl
theorem Zjm (i a : Nat) : G.one (.ref i a) = true := rfl
theorem Znb (f k : Nat) (cs : List G) : G.one (.fn f k cs) = true := rfl
theorem Zah (cs : List G) : Y9 (.agg cs) = some cs := rfl
theorem Zam (v : Value) : Y9 (.val v) = match v with
  | .agg vs => some (vs.toList.map .val)
  | v => if G.one (.val v) = true then some [.val v] else none := by cases v <;> rfl
theorem Zbx (n : Nat) (cs : List G) : Y9 (.sl n cs) = some [.sl n cs] := rfl
theorem Zbu (cs : List G) (k : Nat) : Y9 (.ip cs k) = some [.ip cs k] := rfl
theorem Zak (i n : Nat) : Y9 (.row i n) = some [.row i n] := rfl
theorem Zbw (i a n : Nat) : Y9 (.rs i a n) = some [.rs i a n] := rfl
theorem Zbv (i n a : Nat) : Y9 (.rp i n a) = some [.rp i n a] := rfl
theorem Zaj (i a : Nat) : Y9 (.ref i a) = some [.ref i a] := rfl
theorem Zbs (f k : Nat) (cs : List G) : Y9 (.fn f k cs) = some [.fn f k cs] := rfl
theorem Zai : Y9 .any = none := rfl
theorem Zal (cs : List G) : Y9 (.tup cs) = none := rfl
theorem U8 (b : Bool) (g : G) : Y9 (.when b g) = none := rfl
def gP {α : Type} (f : α → List G) : Option α → G
 | none => .val (.pointer none)
 | some x => .ip (f x) 0
def eP {α : Type} (f : α → List G) (x : Option α) : List G := [gP f x]
section
variable {α : Type} {f : α → List G} {T : Qy} {t e : TypeId} {O O' : Objs} {n' : Nat}
theorem Zip : gP f none = .val (.pointer none) := rfl
theorem Ziq (x : α) : gP f (some x) = .ip (f x) 0 := rfl
theorem Zgt (x : Option α) : Um (gP f x) = gP f x := by cases x <;> rfl
theorem Zoo (x : Option α) (l : List G) : wok (gP f x :: l) = wok l := by cases x <;> rfl
theorem Zcb (x : Option α) : (gP f x).one = true := by cases x <;> rfl
theorem Zbt (x : Option α) : Y9 (gP f x) = some [gP f x] := by cases x <;> rfl
theorem V8 (h : ∀ x, G.pures (f x) = true) (x : Option α) : (gP f x).pure = true := by
 cases x with
 | none => rfl
 | some x => simp only [gP, G.pure, h]
theorem Zcp (h : ∀ x, G.pures (f x) = true) (k : Nat) (x : Option α) : (gP f x).under k = true := Zez k _ (V8 h x)
theorem Zpp (h : ∀ x, G.pures (f x) = true) (x : Option α) : wk O O' n' (gP f x) (gP f x) = True := eq_true (Zqn _ (Zcp h _ x))
theorem Zja (x : Option α) : Yx O (gP f x) = True := by cases x <;> rfl
theorem Zq1 (hk : Yb T t = some (.ptr e)) (x : Option α) : Zir T .eql t (gP f x) (.val (.pointer none)) = some (True, .val (.bool x.isNone)) := by cases x <;> simp [gP, Zir, hk]
end
theorem Zru {α : Type} : ∀ {l : List α} {k : Nat} {x : α}, l[k]? = some x → l.set k x = l
 | [], k, x, h => by simp at h
 | y :: l, 0, x, h => by simp at h; simp [h]
 | y :: l, k + 1, x, h => by simp only [List.set_cons_succ, Zru (l := l) (k := k) (by simpa using h)]
section
variable {P : Program} {w : World} {O : Objs} {m : Hands} {n : Nat}
theorem Ztr (hM : Mem w O m n) {p : Nat} {q q' : GObj} (hp : O p = some q) (h1 : q'.row = q.row) (h2 : q'.ty = q.ty) (h3 : q'.sz = q.sz) (h4 : q'.n = q.n) (hc : ∀ vs, G.reps w O m n q.cells vs → G.reps w O m n q'.cells vs) :
  Mem w (O.upd p (some q')) m n ∧ Ext w O m n w (O.upd p (some q')) m n := by
 have hpn : p < n := by
  rcases Nat.lt_or_ge p n with h | h
  ·exact h
  rw [hM.fresh p h] at hp; cases hp
 have hold : ∀ i o', (O.upd p (some q')) i = some o' → ∃ o, O i = some o ∧ o'.row = o.row ∧ o'.n = o.n := fun i o' hi => by
  by_cases e : i = p
  ·subst e; rw [Xh] at hi; injection hi with hi; subst hi; exact ⟨q, hp, h1, h4⟩
  rw [J9 _ _ e] at hi; exact ⟨o', hi, rfl, rfl⟩
 have hrep : ∀ (gs : List G) (vs : List Value), G.reps w O m n gs vs → G.reps w (O.upd p (some q')) m n gs vs := fun gs vs h => Uy hold gs vs h (Va gs vs h)
 refine ⟨⟨fun i hi => ?_, fun i o' hi => ?_, fun i j oi oj b hi hj => ?_⟩, ⟨rfl, rfl, rfl, Nat.le_refl _, Nat.le_refl _, fun b _ ho => ⟨rfl, fun ⟨i, o', hi, hb⟩ => ?_⟩, fun i _ o' hi => ?_⟩⟩
 ·rw [J9 _ _ (by omega)]; exact hM.fresh i hi
 ·by_cases e : i = p
  ·subst e
   rw [Xh] at hi
   injection hi with hi
   subst hi
   obtain ⟨vs, hr, hx⟩ := hM.obj i q hp
   refine ⟨vs, hrep _ _ (hc vs hr), ?_⟩
   rw [h1, h2, h3, h4]; exact hx
  rw [J9 _ _ e] at hi
  obtain ⟨vs, hr, hx⟩ := hM.obj i o' hi
  exact ⟨vs, hrep _ _ hr, hx⟩
 ·obtain ⟨o1, e1, _⟩ := hold i oi hi
  obtain ⟨o2, e2, _⟩ := hold j oj hj
  exact hM.apart i j o1 o2 b e1 e2
 ·obtain ⟨o1, e1, _⟩ := hold i o' hi
  exact ho ⟨i, o1, e1, hb⟩
 obtain ⟨o1, e1, e2, e3⟩ := hold i o' hi
 exact ⟨o1, e1, e2, Nat.le_of_eq e3.symm, fun _ => rfl⟩
theorem Zmj {ba : Nat} {E : Env} {p k : Nat} {q : GObj} (t : TypeId) (sz : Nat) (hp : O p = some q) (hk : q.cells[k]? = some (.val (.slice none 0 0))) (hb : ba ≤ n) :
  Fit2 ba E O n E ((O.upd n (some ⟨true, t, sz, 0, []⟩)).upd p (some ⟨q.row, q.ty, q.sz, q.n, q.cells.set k (.row n 0)⟩)) (n + 1) := fun w m a hM hE => by
 have hpn : p ≠ n := fun e => by rw [e, hM.fresh n (Nat.le_refl _)] at hp; cases hp
 obtain ⟨h1, h2⟩ := Zo4 hM t sz
 have hp' : (O.upd n (some ⟨true, t, sz, 0, []⟩)) p = some q := by rw [J9 _ _ hpn]; exact hp
 obtain ⟨h3, h4⟩ := Ztr (q' := ⟨q.row, q.ty, q.sz, q.n, q.cells.set k (.row n 0)⟩) h1 hp' rfl rfl rfl rfl (fun vs hr => by
  obtain ⟨v, hv, hrv⟩ := Zj3 _ _ hr k _ hk
  simp only [G.rep] at hrv
  subst hrv
  have := Zrq q.cells vs k (.row n 0) (.slice none 0 0) hr (Zo5 t sz)
  rw [Zru hv] at this
  exact this)
 have hX := h2.trans h4
 exact ⟨_, h3, hE.ext hX, hX.base hb⟩
end
end Go.Proofs.Ytmlhokaflhlhbaa
